"""The document's words, worked out in another way than the program does, to hold its answers against.

Groups are frozensets of people here, and a way is a tuple of the groups' numbers.
"""

import itertools


def renumbered(numbers):
    seen = {}
    return tuple(seen.setdefault(number, len(seen)) for number in numbers)


def ways(n):
    return sorted({renumbered(numbers) for numbers in itertools.product(range(n), repeat=n)})


def group_of(way, number):
    return frozenset(i for i, g in enumerate(way) if g == number)


def value(n, worth, person, group):
    rows = [worth[i * n:(i + 1) * n] for i in range(n)]
    return sum(rows[person][other] for other in group - {person})


def each_has(n, worth, way):
    return [value(n, worth, i, group_of(way, way[i])) for i in range(n)]


def pick(n, k, worth, these):
    """The best by k of these ways, with all that is told of it."""
    reach = (sum, min)[k]
    most = max(reach(each_has(n, worth, way)) for way in these)
    way = min(way for way in these if reach(each_has(n, worth, way)) == most)
    return way, list(way) + each_has(n, worth, way) + [most]


def best(n, k, worth):
    way, told = pick(n, k, worth, ways(n))
    return [len(set(way))] + told
