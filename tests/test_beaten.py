import itertools
import random
import unittest

import handed
import plainly
from circles.people import among, beaten, best
from examples import FIVE, RING, THREE, TWOS


class BeatenCase(unittest.TestCase):
    def answers(self, n, worth, groups, told):
        with self.subTest(n=n, worth=worth, groups=groups):
            self.assertEqual(handed.check_call(self, beaten, (n,), worth, groups), told)


class Beaten(BeatenCase):
    def test_one_person(self):
        for own in (-20, 0, 7, 20):
            self.answers(1, [own], [0], [-33])

    def test_two_people(self):
        self.answers(2, [0, 3, 4, 0], [0, 1], [1, 0, 0, 3, 4])
        self.answers(2, [0, 3, 4, 0], [0, 0], [-33])
        self.answers(2, [0, -3, -4, 0], [0, 0], [2, 0, 1, 0, 0])
        self.answers(2, [0, -3, -4, 0], [0, 1], [-33])

    def test_more_for_one_is_enough(self):
        self.answers(2, [0, 5, 0, 0], [0, 1], [1, 0, 0, 5, 0])
        self.answers(2, [0, 0, 5, 0], [0, 1], [1, 0, 0, 0, 5])
        self.answers(2, [0, -5, 0, 0], [0, 0], [2, 0, 1, 0, 0])
        self.answers(2, [0, 0, -5, 0], [0, 0], [2, 0, 1, 0, 0])

    def test_less_for_one_is_too_much(self):
        # However much more the other has.
        for worth in ([0, 5, -1, 0], [0, -1, 5, 0], [0, 20, -1, 0]):
            self.answers(2, worth, [0, 1], [-33])
            self.answers(2, worth, [0, 0], [-33])

    def test_three_people(self):
        self.answers(3, THREE, [0, 0, 0], [-33])
        self.answers(3, THREE, [0, 0, 1], [-33])
        self.answers(3, THREE, [0, 1, 0], [1, 0, 0, 0, -5, 5, 7])
        self.answers(3, THREE, [0, 1, 1], [-33])
        self.answers(3, THREE, [0, 1, 2], [2, 0, 0, 1, 4, 3, 0])

    def test_the_first_that_beats_may_be_beaten_itself(self):
        # 0 and 1 like each other, and would rather be without 2; but all as one comes first.
        worth = [0, 5, -1, 5, 0, -1, 0, 0, 0]
        for groups in ([0, 1, 0], [0, 1, 1], [0, 1, 2]):
            self.answers(3, worth, groups, [1, 0, 0, 0, 4, 4, 0])
        self.answers(3, worth, [0, 0, 0], [2, 0, 0, 1, 5, 5, 0])
        self.answers(3, worth, [0, 0, 1], [-33])

    def test_the_first_is_by_the_first_number_that_differs(self):
        # All as one beats all else here, also where fewer people would do.
        worth = [0, 1, 1, 1, 0, 1, 1, 1, 0]
        self.answers(3, worth, [0, 1, 2], [1, 0, 0, 0, 2, 2, 2])
        self.answers(3, worth, [0, 1, 1], [1, 0, 0, 0, 2, 2, 2])
        # 0 and 1 are nothing for each other: 0 with 2 comes ahead of 1 with 2, which beats everybody alone, too.
        worth = [0, -9, 1, -9, 0, 1, 1, 1, 0]
        self.answers(3, worth, [0, 1, 2], [2, 0, 1, 0, 1, 0, 1])
        self.answers(3, worth, [0, 0, 1], [1, 0, 0, 0, -8, -8, 2])
        self.answers(3, worth, [0, 0, 0], [-33])
        self.answers(3, worth, [0, 1, 1], [-33])

    def test_four_in_twos(self):
        self.answers(4, TWOS, [0, 1, 1, 0], [-33])
        self.answers(4, TWOS, [0, 0, 0, 0], [2, 0, 1, 1, 0, 8, 6, 7, 5])
        self.answers(4, TWOS, [0, 1, 1, 2], [2, 0, 1, 1, 0, 8, 6, 7, 5])
        self.answers(4, TWOS, [0, 1, 2, 3], [1, 0, 0, 0, 0, 6, 4, 5, 3])
        self.answers(4, TWOS, [0, 0, 1, 1], [1, 0, 0, 0, 0, 6, 4, 5, 3])

    def test_five_people(self):
        self.answers(5, FIVE, [0, 1, 0, 1, 0], [-33])
        self.answers(5, FIVE, [0, 1, 0, 1, 2], [2, 0, 1, 0, 1, 0, 5, 9, 5, 8, 4])
        self.answers(5, FIVE, [0, 1, 2, 3, 4], [2, 0, 1, 0, 1, 0, 5, 9, 5, 8, 4])
        # 4 has most with 0 alone.
        self.answers(5, FIVE, [0, 1, 2, 1, 0], [-33])

    def test_five_in_a_ring(self):
        self.answers(5, RING, [0, 0, 1, 1, 2], [-33])
        self.answers(5, RING, [0, 0, 1, 2, 2], [-33])
        self.answers(5, RING, [0, 1, 2, 3, 4], [3, 0, 0, 1, 1, 2, 2, 1, 2, 1, 0])
        self.answers(5, RING, [0, 0, 1, 2, 3], [3, 0, 0, 1, 1, 2, 2, 1, 2, 1, 0])


class OtherNumbers(BeatenCase):
    def test_the_same_groups_by_other_numbers(self):
        for groups in ([2, 0, 2], [1, 2, 1], [0, 2, 0], [1, 0, 1], [2, 1, 2]):
            self.answers(3, THREE, groups, [1, 0, 0, 0, -5, 5, 7])
        for groups in ([2, 1, 0], [1, 2, 0], [2, 0, 1], [0, 2, 1]):
            self.answers(3, THREE, groups, [2, 0, 0, 1, 4, 3, 0])
        for groups in ([2, 2, 2], [1, 1, 1], [1, 1, 0], [2, 2, 0], [2, 0, 0], [0, 2, 2]):
            self.answers(3, THREE, groups, [-33])
        self.answers(2, [0, 3, 4, 0], [1, 0], [1, 0, 0, 3, 4])
        self.answers(2, [0, 3, 4, 0], [1, 1], [-33])
        self.answers(4, TWOS, [3, 1, 1, 3], [-33])
        self.answers(4, TWOS, [3, 3, 3, 3], [2, 0, 1, 1, 0, 8, 6, 7, 5])
        self.answers(5, FIVE, [4, 0, 4, 0, 3], [2, 0, 1, 0, 1, 0, 5, 9, 5, 8, 4])
        self.answers(5, FIVE, [4, 3, 2, 1, 0], [2, 0, 1, 0, 1, 0, 5, 9, 5, 8, 4])

    def test_all_numbers_that_may_be(self):
        numbers = random.Random(6)
        for n in range(1, 5):
            worth = [numbers.randint(-3, 3) for place in range(n * n)]
            for groups in itertools.product(range(n), repeat=n):
                told = plainly.beaten(n, worth, plainly.renumbered(groups))
                self.answers(n, worth, list(groups), told)


class BeatenEdges(BeatenCase):
    def test_worths_all_0(self):
        for n in range(1, 6):
            for way in plainly.ways(n):
                self.answers(n, [0] * (n * n), list(way), [-33])

    def test_all_below_0(self):
        for n in range(1, 6):
            for value in (-1, -20):
                self.answers(n, [value] * (n * n), list(range(n)), [-33])
        # All as one: the first way in which somebody is rid of the others leaves the last alone.
        for n in range(2, 6):
            for value in (-1, -20):
                has = [value * (n - 2)] * (n - 1) + [0]
                self.answers(n, [value] * (n * n), [0] * n, [2] + [0] * (n - 1) + [1] + has)

    def test_all_at_20(self):
        self.answers(5, [20] * 25, [0] * 5, [-33])
        self.answers(5, [20] * 25, list(range(5)), [1] + [0] * 5 + [80] * 5)
        self.answers(5, [20] * 25, [0, 0, 0, 0, 1], [1] + [0] * 5 + [80] * 5)

    def test_20_and_minus_20(self):
        for groups in ([0, 0], [0, 1]):
            self.answers(2, [0, 20, -20, 0], groups, [-33])
        # 0 and 1 are all to each other, 2 is a burden to both.
        worth = [0, 20, -20, 20, 0, -20, -20, -20, 0]
        self.answers(3, worth, [0, 0, 0], [2, 0, 0, 1, 20, 20, 0])
        self.answers(3, worth, [0, 1, 1], [2, 0, 0, 1, 20, 20, 0])
        self.answers(3, worth, [0, 0, 1], [-33])

    def test_two_as_good_do_not_beat_each_other(self):
        worth = [0, 2, 2, 2, 0, -20, 2, -20, 0]
        self.answers(3, worth, [0, 0, 1], [-33])
        self.answers(3, worth, [0, 1, 0], [-33])
        self.answers(3, worth, [0, 1, 2], [2, 0, 0, 1, 2, 2, 0])

    def test_what_one_has_may_be_below_0(self):
        # 1 has less than alone, and yet nobody less than before.
        worth = [0, 9, 9, -2, 0, -3, -2, -3, 0]
        self.answers(3, worth, [0, 1, 1], [2, 0, 0, 1, 9, -2, 0])

    def test_worth_to_oneself_means_nothing(self):
        numbers = random.Random(7)
        for n in range(1, 6):
            worth = [numbers.randint(-20, 20) for place in range(n * n)]
            for way in plainly.ways(n):
                answers = []
                for own in (-20, -1, 0, 20):
                    for person in range(n):
                        worth[person * n + person] = own
                    answers.append(beaten(n, worth, list(way)))
                self.assertEqual(answers, [answers[0]] * 4)

    def test_what_has_most_together_is_beaten_by_nothing(self):
        numbers = random.Random(8)
        for n in range(1, 6):
            for turn in range(30):
                worth = [numbers.randint(-20, 20) for place in range(n * n)]
                self.answers(n, worth, best(n, 0, worth)[1:n + 1], [-33])

    def test_what_holds_against_weak_leaving_is_beaten_by_nothing(self):
        numbers = random.Random(9)
        for n in range(1, 6):
            for turn in range(10):
                worth = [numbers.randint(-6, 6) for place in range(n * n)]
                for way in plainly.ways(n):
                    if plainly.is_of_kind(n, 4, worth, way):
                        self.answers(n, worth, list(way), [-33])
                for k in (0, 1):
                    told = among(n, k, 4, worth)
                    if told != [-33]:
                        self.answers(n, worth, told[1:n + 1], [-33])

    def test_as_the_words_say_plainly(self):
        numbers = random.Random(10)
        for bound in (1, 2, 6, 20):
            for n in range(1, 6):
                for turn in range(12):
                    worth = [numbers.randint(-bound, bound) for place in range(n * n)]
                    groups = [numbers.randrange(n) for person in range(n)]
                    self.answers(n, worth, groups, plainly.beaten(n, worth, groups))
                    self.answers(n, worth, list(range(n)), plainly.beaten(n, worth, range(n)))


class BeatenRefused(BeatenCase):
    def test_n_or_worth_not_as_told(self):
        for n, worth in handed.wrong_people():
            # As told, where a list of at most 7 can be.
            self.answers(n, worth, [0] * min(n, 7), [-22])
            self.answers(n, worth, list(range(min(n, 7))), [-22])

    def test_groups_not_as_told(self):
        for n in range(1, 6):
            for groups in handed.wrong_groups(n):
                self.answers(n, [0] * (n * n), groups, [-22])
                # Also where the groups would be beaten.
                self.answers(n, [20] * (n * n), groups, [-22])
                self.answers(n, [-20] * (n * n), groups, [-22])

    def test_the_last_number_that_may_be(self):
        for n in range(1, 6):
            self.answers(n, [0] * (n * n), [n - 1] * n, [-33])

    def test_several_at_once(self):
        for n, worth in handed.wrong_people():
            for groups in ([], [0] * 7, [n] * min(n, 7), [2 ** 32 - 1] * min(n, 7), [2 ** 32 - 1] * 7):
                self.answers(n, worth, groups, [-22])
        self.answers(0, [21], [0], [-22])
        self.answers(6, [-21] * 27, [6] * 6, [-22])


class BeatenQuiet(unittest.TestCase):
    def test_prints_reads_and_imports_nothing(self):
        for groups in ([0, 0, 0], [2, 0, 2], [0, 1, 2], [0, 1, 3], []):
            handed.check_quiet(self, beaten, 3, THREE, groups)
        handed.check_quiet(self, beaten, 5, RING, [0, 1, 2, 3, 4])
        handed.check_quiet(self, beaten, 0, [], [])


if __name__ == "__main__":
    unittest.main()
