"""What the document says holds over the whole program, at several worths."""

import random
import unittest

import plainly
from circles.people import among, beaten, best, price, unbeaten
from examples import FIVE, RING, THREE, TWOS

PLAIN = [(1, [0]), (1, [20]), (2, [0, 5, -1, 0]), (3, THREE), (3, [0, 2, 2, 2, 0, -20, 2, -20, 0]), (4, TWOS),
         (5, FIVE), (5, RING), (5, [0] * 25), (5, [20] * 25), (5, [-20] * 25)]


def several(seed):
    numbers = random.Random(seed)
    return PLAIN + [(n, [numbers.randint(-bound, bound) for place in range(n * n)])
                    for bound in (1, 6, 20) for n in range(1, 6) for turn in range(4)]


def both_ways_alike(seed):
    """Worths by which each is worth to each as much as the other way round."""
    numbers = random.Random(seed)
    for bound in (1, 2, 6, 20):
        for n in range(1, 6):
            for turn in range(6):
                worth = [numbers.randint(-20, 20) for place in range(n * n)]
                for i in range(n):
                    for j in range(i):
                        worth[i * n + j] = worth[j * n + i] = numbers.randint(-bound, bound)
                yield n, worth


def ways_with_most(n, worth):
    """All ways in which all have most together, not the first alone."""
    had = {way: sum(plainly.each_has(n, worth, way)) for way in plainly.ways(n)}
    return [way for way in had if had[way] == max(had.values())]


class NoneHaveMore(unittest.TestCase):
    def test_all_together(self):
        for n, worth in several(23):
            with self.subTest(n=n, worth=worth):
                most = best(n, 0, worth)[-1]
                for way in plainly.ways(n):
                    self.assertLessEqual(sum(plainly.each_has(n, worth, way)), most)
                for w in range(5):
                    told = price(n, w, worth)
                    if told != [-33]:
                        self.assertEqual(told[1], most)
                        self.assertLessEqual(told[2], most)

    def test_who_has_least(self):
        for n, worth in several(24):
            with self.subTest(n=n, worth=worth):
                least = best(n, 1, worth)[-1]
                for way in plainly.ways(n):
                    self.assertLessEqual(min(plainly.each_has(n, worth, way)), least)

    def test_those_of_a_kind(self):
        for n, worth in several(25):
            for w in range(5):
                these = [plainly.each_has(n, worth, way) for way in plainly.ways(n)
                         if plainly.is_of_kind(n, w, worth, way)]
                with self.subTest(n=n, w=w, worth=worth):
                    told = price(n, w, worth)
                    most, least = [among(n, k, w, worth)[-1] for k in (0, 1)]
                    self.assertEqual(told == [-33], these == [])
                    for has in these:
                        self.assertLessEqual(sum(has), most)
                        self.assertLessEqual(min(has), least)
                        self.assertLessEqual(sum(has), told[2])
                        self.assertGreaterEqual(sum(has), told[3])


class BeatenByNothing(unittest.TestCase):
    def test_what_has_most_all_together(self):
        for n, worth in several(26):
            with self.subTest(n=n, worth=worth):
                these = ways_with_most(n, worth)
                for way in these:
                    self.assertEqual(beaten(n, worth, list(way)), [-33])
                self.assertGreaterEqual(unbeaten(n, worth)[0], len(these))

    def test_what_holds_even_against_weak_leaving(self):
        held = 0
        for n, worth in several(27):
            with self.subTest(n=n, worth=worth):
                for way in plainly.ways(n):
                    if plainly.is_of_kind(n, 4, worth, way):
                        self.assertEqual(beaten(n, worth, list(way)), [-33])
                told = price(n, 4, worth)
                if told != [-33]:
                    held += 1
                    self.assertGreaterEqual(unbeaten(n, worth)[0], told[0])
        # Else nothing was looked at.
        self.assertGreater(held, 20)


class TheBestIsAtRest(unittest.TestCase):
    def test_worth_as_much_the_other_way_round(self):
        for n, worth in both_ways_alike(28):
            with self.subTest(n=n, worth=worth):
                told = price(n, 0, worth)
                self.assertEqual(told[1], told[2])
                self.assertEqual(among(n, 0, 0, worth), [told[0]] + best(n, 0, worth)[1:])
                self.assertGreaterEqual(told[0], len(ways_with_most(n, worth)))
                for way in ways_with_most(n, worth):
                    self.assertTrue(plainly.is_of_kind(n, 0, worth, way))


if __name__ == "__main__":
    unittest.main()
