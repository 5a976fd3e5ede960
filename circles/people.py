"""People in groups: which groups are best for all, or for who has least; which, and what's lost, if they must be at
rest, or hold; which are beaten by others that are better for somebody and worse for nobody; who envies whom.

A way to be in groups is a list: of each person the number of their group.
"""

REFUSED = -22
NONE_OF_KIND = -33
BEATEN_BY_NOTHING = -33

MOST_PEOPLE = 5
MOST_WORTH = 20
LAST_MEASURE = 1
LAST_KIND = 4

TOGETHER = 0

WHERE_WELCOME = 1
WHERE_LET_GO = 2
HOLDING = 3
HOLDING_WEAKLY = 4


def best(n, k, worth):
    """Answer the best groups by k."""
    if not is_as_told(n, worth) or k > LAST_MEASURE:
        return [REFUSED]
    way = first_best(n, k, worth, all_ways(n))
    return [count_groups(way)] + told_of_way(n, k, worth, way)


def among(n, k, w, worth):
    """Answer how many ways are of kind w, and the best by k among these."""
    if not is_as_told(n, worth) or k > LAST_MEASURE or w > LAST_KIND:
        return [REFUSED]
    ways = ways_of_kind(n, w, worth)
    if len(ways) == 0:
        return [NONE_OF_KIND]
    return [len(ways)] + told_of_way(n, k, worth, first_best(n, k, worth, ways))


def beaten(n, worth, groups):
    """Answer the first of all ways by which these groups are beaten."""
    if not is_as_told(n, worth) or not is_group_of_each(n, groups):
        return [REFUSED]
    # How groups are numbered doesn't matter here: what each has is the same.
    has = what_each_has(n, worth, groups)
    ways = [way for way in all_ways(n) if does_beat(what_each_has(n, worth, way), has)]
    if len(ways) == 0:
        return [BEATEN_BY_NOTHING]
    return [count_groups(ways[0])] + ways[0] + what_each_has(n, worth, ways[0])


def unbeaten(n, worth):
    """Answer how many of all ways are beaten by nothing, and the first of these."""
    if not is_as_told(n, worth):
        return [REFUSED]
    ways = all_ways(n)
    had = [what_each_has(n, worth, way) for way in ways]
    # There is always one: what has most all together is beaten by nothing.
    kept = [way for way in ways if not is_beaten(what_each_has(n, worth, way), had)]
    return [len(kept)] + kept[0]


def envies(n, worth, groups):
    """Answer how many twos of people there are of whom the first envies the second, and both of each."""
    if not is_as_told(n, worth) or not is_group_of_each(n, groups):
        return [REFUSED]
    # How groups are numbered doesn't matter here either: only people are answered.
    many = 0
    twos = []
    for person in range(n):
        envied = those_envied(n, worth, groups, person)
        many += len(envied)
        for other in envied:
            twos.extend([person, other])
    return [many] + twos


def price(n, w, worth):
    """Answer how many ways are of kind w, and what all have together at best, and at best and at worst in these."""
    if not is_as_told(n, worth) or w > LAST_KIND:
        return [REFUSED]
    had = had_together(n, worth, ways_of_kind(n, w, worth))
    if len(had) == 0:
        return [NONE_OF_KIND]
    return [len(had), max(had_together(n, worth, all_ways(n))), max(had), min(had)]


def is_as_told(n, worth):
    """Tell whether there are as many people as may be, and all their worths are told."""
    if n < 1 or n > MOST_PEOPLE or len(worth) != n * n:
        return False
    return all([abs(value) <= MOST_WORTH for value in worth])


def is_group_of_each(n, groups):
    """Tell whether groups tells a number below n for each person."""
    return len(groups) == n and all([number < n for number in groups])


def all_ways(n):
    """Give all ways to be in groups, in their order."""
    ways = [[]]
    for person in range(n):
        longer = []
        for way in ways:
            longer.extend(ways_with_one_more(way))
        ways = longer
    return ways


def ways_with_one_more(way):
    """Give the ways in which one more person joins a group of this way, or is alone."""
    return [way + [number] for number in range(count_groups(way) + 1)]


def count_groups(way):
    """Count the groups of a way."""
    return max(way, default=-1) + 1


def members_of(way, number):
    """List the people of a group; the number behind all groups has none."""
    return [person for person in range(len(way)) if way[person] == number]


def has_with(n, worth, person, members):
    """Tell what a person has in a group of these members, whether or not they are one of them."""
    return sum([worth[person * n + other] for other in members if other != person])


def what_each_has(n, worth, way):
    """List what each person has where they are."""
    return [has_with(n, worth, person, members_of(way, way[person])) for person in range(n)]


def measure(k, has):
    """Tell what all have together, or what the least is that one has."""
    if k == TOGETHER:
        return sum(has)
    return min(has)


def first_best(n, k, worth, ways):
    """Give the first of these ways by which the measure is most; there is at least one way."""
    chosen = ways[0]
    most = measure(k, what_each_has(n, worth, chosen))
    for way in ways:
        reached = measure(k, what_each_has(n, worth, way))
        # Only more is better: of like ones the first stays.
        if reached > most:
            chosen = way
            most = reached
    return chosen


def told_of_way(n, k, worth, way):
    """List each person's group, what each has, and the measure."""
    has = what_each_has(n, worth, way)
    return way + has + [measure(k, has)]


def had_together(n, worth, ways):
    """List what all have together in each of these ways."""
    return [measure(TOGETHER, what_each_has(n, worth, way)) for way in ways]


def ways_of_kind(n, w, worth):
    """List the ways of kind w, in their order."""
    return [way for way in all_ways(n) if is_of_kind(n, w, worth, way)]


def is_of_kind(n, w, worth, way):
    """Tell whether groups are at rest by that way to go, or hold."""
    if w < HOLDING:
        return is_at_rest(n, w, worth, way)
    return does_hold(n, w, worth, way)


def is_at_rest(n, w, worth, way):
    """Tell whether nobody may go anywhere, to a group or to be alone."""
    for person in range(n):
        for number in range(count_groups(way) + 1):
            if may_go(n, w, worth, person, members_of(way, way[person]), members_of(way, number)):
                return False
    return True


def may_go(n, w, worth, person, left, joined):
    """Tell whether a person may go from those left to those joined."""
    # Staying needs no case of its own: nobody has more where they are than where they are.
    if has_with(n, worth, person, joined) <= has_with(n, worth, person, left):
        return False
    if w >= WHERE_WELCOME and not is_welcome(n, worth, person, joined):
        return False
    return w < WHERE_LET_GO or is_let_go(n, worth, person, left)


def is_welcome(n, worth, person, joined):
    """Tell whether nobody of those joined would have less by it."""
    return all([worth[other * n + person] >= 0 for other in joined])


def is_let_go(n, worth, person, left):
    """Tell whether nobody of those left would have less by it."""
    return all([worth[other * n + person] <= 0 for other in left if other != person])


def does_hold(n, w, worth, way):
    """Tell whether no set of people would leave, by kind w not even weakly."""
    has = what_each_has(n, worth, way)
    for members in all_sets(n):
        if would_leave(w, gains(n, worth, has, members)):
            return False
    return True


def all_sets(n):
    """Give all sets of people but the one of nobody, in which nobody could leave."""
    sets = [[]]
    for person in range(n):
        sets = sets + [members + [person] for members in sets]
    return sets[1:]


def gains(n, worth, has, members):
    """List how much more each of these members would have in a group of just these."""
    return [has_with(n, worth, person, members) - has[person] for person in members]


def would_leave(w, gained):
    """Tell whether a set that gains so would leave, or by kind w leave weakly."""
    if w == HOLDING_WEAKLY:
        return is_better(gained)
    return min(gained) > 0


def is_better(gained):
    """Tell whether, where so much more is had, nobody has less and somebody more."""
    return min(gained) >= 0 and max(gained) > 0


def does_beat(has, other):
    """Tell whether groups in which each has so much beat others in which each has so much."""
    return is_better([has[person] - other[person] for person in range(len(has))])


def is_beaten(has, had):
    """Tell whether groups in which each has so much are beaten by one of those in which it is had so."""
    return any([does_beat(other, has) for other in had])


def those_envied(n, worth, groups, person):
    """List those whom a person envies."""
    return [other for other in range(n) if does_envy(n, worth, groups, person, other)]


def does_envy(n, worth, groups, person, other):
    """Tell whether a person would have more in the other one's group without that one."""
    # Nobody envies one of their own group, though they may have more without that one.
    if groups[person] == groups[other]:
        return False
    left = [member for member in members_of(groups, groups[other]) if member != other]
    return has_with(n, worth, person, left) > has_with(n, worth, person, members_of(groups, groups[person]))
