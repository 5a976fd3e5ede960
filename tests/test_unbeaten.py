import random
import unittest

import handed
import plainly
from circles.people import among, beaten, best, unbeaten
from examples import FIVE, RING, THREE, TWOS


class UnbeatenCase(unittest.TestCase):
    def answers(self, n, worth, told):
        with self.subTest(n=n, worth=worth):
            self.assertEqual(handed.check_call(self, unbeaten, (n,), worth), told)


class Unbeaten(UnbeatenCase):
    def test_one_person(self):
        for own in (-20, 0, 7, 20):
            self.answers(1, [own], [1, 0])

    def test_two_people(self):
        self.answers(2, [0, 3, 4, 0], [1, 0, 0])
        self.answers(2, [0, -3, -4, 0], [1, 0, 1])

    def test_more_for_one_is_enough(self):
        self.answers(2, [0, 5, 0, 0], [1, 0, 0])
        self.answers(2, [0, 0, 5, 0], [1, 0, 0])
        self.answers(2, [0, -5, 0, 0], [1, 0, 1])
        self.answers(2, [0, 0, -5, 0], [1, 0, 1])

    def test_less_for_one_is_too_much(self):
        for worth in ([0, 5, -1, 0], [0, -1, 5, 0], [0, 20, -1, 0]):
            self.answers(2, worth, [2, 0, 0])

    def test_three_people(self):
        # All as one, 0 with 1, and 1 with 2.
        self.answers(3, THREE, [3, 0, 0, 0])

    def test_the_first_of_all_ways_may_be_beaten(self):
        # 0 and 1 like each other, and would rather be without 2.
        self.answers(3, [0, 5, -1, 5, 0, -1, 0, 0, 0], [1, 0, 0, 1])
        # 0 and 1 are nothing for each other; all as one and 0 with 1 are beaten, the other three are as good.
        self.answers(3, [0, -9, 0, -9, 0, 0, 0, 0, 0], [3, 0, 1, 0])
        # 1 and 2 like each other, and 0 nobody.
        self.answers(3, [0, -1, -1, 0, 0, 3, 0, 3, 0], [1, 0, 1, 1])

    def test_the_first_is_not_the_best(self):
        # All as one has -32 together, 0 with 1 has 4; but nobody else gives 0 as much as both.
        self.answers(3, [0, 2, 2, 2, 0, -20, 2, -20, 0], [3, 0, 0, 0])

    def test_four_in_twos(self):
        self.answers(4, TWOS, [1, 0, 1, 1, 0])

    def test_four_of_whom_two_like_each_other(self):
        # 2 and 3 are in groups as they like, 0 and 1 are by themselves.
        worth = [0, 3, -1, -1, 3, 0, -1, -1, 0, 0, 0, 0, 0, 0, 0, 0]
        self.answers(4, worth, [2, 0, 0, 1, 1])

    def test_five_and_one_who_likes_one(self):
        # 0 has most with 1 alone, to all others all is as good: three are in groups as they like.
        worth = [0, 20, -1, -1, -1] + [0] * 20
        self.answers(5, worth, [5, 0, 0, 1, 1, 1])

    def test_five_and_one_who_is_a_burden(self):
        # What 0 has more of others, others have less: nothing is beaten.
        worth = [0, 20, 20, 20, 20] + [-1, 0, 0, 0, 0] * 4
        self.answers(5, worth, [52, 0, 0, 0, 0, 0])

    def test_five_and_one_who_is_liked_by_all(self):
        worth = [0, 1, 1, 1, 1] + [1, 0, 0, 0, 0] * 4
        self.answers(5, worth, [1, 0, 0, 0, 0, 0])

    def test_five_people(self):
        # 1 is with 3; and 4 with 0 and 2, or with 0 alone, where 4 has most.
        self.answers(5, FIVE, [2, 0, 1, 0, 1, 0])

    def test_five_in_a_ring(self):
        # Two twos and one alone, whoever that is; or three and two, where who's in the middle of three has most.
        self.answers(5, RING, [10, 0, 0, 0, 1, 1])


class UnbeatenEdges(UnbeatenCase):
    def test_worths_all_0(self):
        for n, many in ((1, 1), (2, 2), (3, 5), (4, 15), (5, 52)):
            self.answers(n, [0] * (n * n), [many] + [0] * n)

    def test_all_below_0_everybody_alone(self):
        for n in range(1, 6):
            for value in (-1, -20):
                self.answers(n, [value] * (n * n), [1] + list(range(n)))

    def test_all_above_0_everybody_together(self):
        for n in range(1, 6):
            for value in (1, 20):
                self.answers(n, [value] * (n * n), [1] + [0] * n)

    def test_20_and_minus_20(self):
        self.answers(2, [0, 20, -20, 0], [2, 0, 0])
        # 0 and 1 are all to each other, 2 is a burden to both.
        self.answers(3, [0, 20, -20, 20, 0, -20, -20, -20, 0], [1, 0, 0, 1])

    def test_worth_to_oneself_means_nothing(self):
        numbers = random.Random(11)
        for n in range(1, 6):
            worth = [numbers.randint(-20, 20) for place in range(n * n)]
            answers = []
            for own in (-20, -1, 0, 20):
                for person in range(n):
                    worth[person * n + person] = own
                answers.append(unbeaten(n, worth))
            self.assertEqual(answers, [answers[0]] * 4)

    def test_those_that_beaten_tells_nothing_of(self):
        numbers = random.Random(12)
        for n in range(1, 6):
            for turn in range(4):
                worth = [numbers.randint(-6, 6) for place in range(n * n)]
                these = [list(way) for way in plainly.ways(n) if beaten(n, worth, list(way)) == [-33]]
                self.answers(n, worth, [len(these)] + these[0])

    def test_what_has_most_together_is_among_them(self):
        numbers = random.Random(13)
        for n in range(1, 6):
            for turn in range(20):
                worth = [numbers.randint(-20, 20) for place in range(n * n)]
                told = unbeaten(n, worth)
                self.assertGreaterEqual(told[0], 1)
                # The first of them isn't behind the first that has most.
                self.assertLessEqual(told[1:], best(n, 0, worth)[1:n + 1])

    def test_what_holds_against_weak_leaving_is_among_them(self):
        numbers = random.Random(14)
        for n in range(1, 6):
            for turn in range(20):
                worth = [numbers.randint(-6, 6) for place in range(n * n)]
                told = unbeaten(n, worth)
                for k in (0, 1):
                    holding = among(n, k, 4, worth)
                    if holding != [-33]:
                        self.assertGreaterEqual(told[0], holding[0])
                        self.assertLessEqual(told[1:], holding[1:n + 1])

    def test_as_the_words_say_plainly(self):
        numbers = random.Random(15)
        for bound in (1, 2, 6, 20):
            for n in range(1, 6):
                for turn in range(12):
                    worth = [numbers.randint(-bound, bound) for place in range(n * n)]
                    self.answers(n, worth, plainly.unbeaten(n, worth))


class UnbeatenRefused(UnbeatenCase):
    def test_n_or_worth_not_as_told(self):
        for n, worth in handed.wrong_people():
            self.answers(n, worth, [-22])

    def test_several_at_once(self):
        self.answers(0, [21], [-22])
        self.answers(6, [-21] * 27, [-22])
        self.answers(2 ** 32 - 1, [2 ** 31 - 1] * 27, [-22])
        self.answers(3, [21] * 8, [-22])
        self.answers(3, [-21] * 10, [-22])
        self.answers(2, [21, -21, 21, -21], [-22])


class UnbeatenQuiet(unittest.TestCase):
    def test_prints_reads_and_imports_nothing(self):
        for n, worth in ((1, [0]), (3, THREE), (4, TWOS), (5, RING), (0, []), (3, [21] * 9)):
            handed.check_quiet(self, unbeaten, n, worth)


if __name__ == "__main__":
    unittest.main()
