"""People in groups: which groups are best for all, or for who has least.

A way to be in groups is a list: of each person the number of their group.
"""

REFUSED = -22

MOST_PEOPLE = 5
MOST_WORTH = 20
LAST_MEASURE = 1

TOGETHER = 0


def best(n, k, worth):
    """Answer the best groups by k."""
    if not is_as_told(n, worth) or k > LAST_MEASURE:
        return [REFUSED]
    way = first_best(n, k, worth, all_ways(n))
    return [count_groups(way)] + told_of_way(n, k, worth, way)


def is_as_told(n, worth):
    """Tell whether there are as many people as may be, and all their worths are told."""
    if n < 1 or n > MOST_PEOPLE or len(worth) != n * n:
        return False
    return all([abs(value) <= MOST_WORTH for value in worth])


def all_ways(n):
    """Give all ways to be in groups, in their order."""
    ways = [[]]
    for person in range(n):
        longer = []
        for way in ways:
            longer.extend(ways_with_one_more(way))
        ways = longer
    return ways


def ways_with_one_more(way):
    """Give the ways in which one more person joins a group of this way, or is alone."""
    return [way + [number] for number in range(count_groups(way) + 1)]


def count_groups(way):
    """Count the groups of a way."""
    return max(way, default=-1) + 1


def members_of(way, number):
    """List the people of a group; the number behind all groups has none."""
    return [person for person in range(len(way)) if way[person] == number]


def has_with(n, worth, person, members):
    """Tell what a person has in a group of these members, whether or not they are one of them."""
    return sum([worth[person * n + other] for other in members if other != person])


def what_each_has(n, worth, way):
    """List what each person has where they are."""
    return [has_with(n, worth, person, members_of(way, way[person])) for person in range(n)]


def measure(k, has):
    """Tell what all have together, or what the least is that one has."""
    if k == TOGETHER:
        return sum(has)
    return min(has)


def first_best(n, k, worth, ways):
    """Give the first of these ways by which the measure is most; there is at least one way."""
    chosen = ways[0]
    most = measure(k, what_each_has(n, worth, chosen))
    for way in ways:
        reached = measure(k, what_each_has(n, worth, way))
        # Only more is better: of like ones the first stays.
        if reached > most:
            chosen = way
            most = reached
    return chosen


def told_of_way(n, k, worth, way):
    """List each person's group, what each has, and the measure."""
    has = what_each_has(n, worth, way)
    return way + has + [measure(k, has)]
