"""The document's words, worked out in another way than the program does, to hold its answers against.

Groups are frozensets of people here, and a way is a tuple of the groups' numbers.
"""

import itertools


def renumbered(numbers):
    seen = {}
    return tuple(seen.setdefault(number, len(seen)) for number in numbers)


def ways(n):
    return sorted({renumbered(numbers) for numbers in itertools.product(range(n), repeat=n)})


def group_of(way, number):
    return frozenset(i for i, g in enumerate(way) if g == number)


def value(n, worth, person, group):
    rows = [worth[i * n:(i + 1) * n] for i in range(n)]
    return sum(rows[person][other] for other in group - {person})


def each_has(n, worth, way):
    return [value(n, worth, i, group_of(way, way[i])) for i in range(n)]


def pick(n, k, worth, these):
    """The best by k of these ways, with all that is told of it."""
    reach = (sum, min)[k]
    most = max(reach(each_has(n, worth, way)) for way in these)
    way = min(way for way in these if reach(each_has(n, worth, way)) == most)
    return way, list(way) + each_has(n, worth, way) + [most]


def best(n, k, worth):
    way, told = pick(n, k, worth, ways(n))
    return [len(set(way))] + told


def moved(way, person, number):
    """The groups after a person went to the group of that number."""
    return way[:person] + (number,) + way[person + 1:]


def may_go(n, w, worth, way, person, number):
    before, after = each_has(n, worth, way), each_has(n, worth, moved(way, person, number))
    rather = after[person] > before[person]
    welcome = all(after[i] >= before[i] for i in range(n) if i != person and way[i] == number)
    let_go = all(after[i] >= before[i] for i in range(n) if i != person and way[i] == way[person])
    return (rather, rather and welcome, rather and welcome and let_go)[w]


def leaves(n, worth, way, group, weakly):
    before = each_has(n, worth, way)
    after = {i: value(n, worth, i, group) for i in group}
    if weakly:
        return not any(after[i] < before[i] for i in group) and any(after[i] > before[i] for i in group)
    return all(after[i] > before[i] for i in group)


def is_of_kind(n, w, worth, way):
    if w <= 2:
        return not any(may_go(n, w, worth, way, i, number) for i in range(n) for number in range(n + 1)
                       if number != way[i])
    groups = [frozenset(i for i in range(n) if told >> i & 1) for told in range(1, 2 ** n)]
    return not any(leaves(n, worth, way, group, w == 4) for group in groups)


def among(n, k, w, worth):
    these = [way for way in ways(n) if is_of_kind(n, w, worth, way)]
    if not these:
        return [-33]
    return [len(these)] + pick(n, k, worth, these)[1]


def is_beaten_by(has, other):
    return not any(b < a for a, b in zip(has, other)) and any(b > a for a, b in zip(has, other))


def beaten(n, worth, groups):
    has = each_has(n, worth, renumbered(groups))
    these = [way for way in ways(n) if is_beaten_by(has, each_has(n, worth, way))]
    if not these:
        return [-33]
    return [len(set(min(these)))] + list(min(these)) + each_has(n, worth, min(these))


def unbeaten(n, worth):
    had = {way: each_has(n, worth, way) for way in ways(n)}
    these = [way for way in had if not any(is_beaten_by(had[way], had[other]) for other in had)]
    return [len(these)] + list(min(these))


def envies(n, worth, groups):
    """Who would have more in another one's place, all others staying where they are."""
    way = renumbered(groups)
    has = each_has(n, worth, way)
    twos = []
    for one, other in itertools.permutations(range(n), 2):
        if way[one] != way[other]:
            # The other one is out of the way, in a group that nobody else is in.
            swapped = moved(moved(way, other, n), one, way[other])
            if each_has(n, worth, swapped)[one] > has[one]:
                twos.append((one, other))
    return [len(twos)] + [person for two in sorted(twos) for person in two]


def price(n, w, worth):
    had = {way: sum(each_has(n, worth, way)) for way in ways(n)}
    these = sorted(had[way] for way in had if is_of_kind(n, w, worth, way))
    if not these:
        return [-33]
    return [len(these), max(had.values()), these[-1], these[0]]
