import random
import unittest

import handed
import plainly
from circles.people import among, best, price
from examples import FIVE, RING, THREE, TWOS

KINDS = range(5)


class PriceCase(unittest.TestCase):
    def answers(self, n, w, worth, told):
        with self.subTest(n=n, w=w, worth=worth):
            self.assertEqual(handed.check_call(self, price, (n, w), worth), told)

    def answers_by_kind(self, n, worth, told):
        for w in KINDS:
            self.answers(n, w, worth, told[w])


class Price(PriceCase):
    def test_one_person(self):
        for own in (-20, 0, 7, 20):
            self.answers_by_kind(1, [own], [[1, 0, 0, 0]] * 5)

    def test_two_who_like_each_other(self):
        self.answers_by_kind(2, [0, 3, 4, 0], [[1, 7, 7, 7]] * 5)

    def test_two_of_whom_one_would_be_alone(self):
        # Together they have most; 1 goes, but where 0 must let them.
        self.answers_by_kind(2, [0, 5, -1, 0], [[-33], [1, 4, 0, 0], [2, 4, 4, 0], [1, 4, 0, 0], [1, 4, 0, 0]])

    def test_three_people(self):
        # 1 with 2 have most, but 1 would rather be with 0; by 2 that, 0 with 1, and all as one are at rest.
        self.answers_by_kind(3, THREE, [[-33], [1, 8, 7, 7], [3, 8, 8, 7], [1, 8, 7, 7], [1, 8, 7, 7]])

    def test_four_in_twos(self):
        # All as one each has more than alone, but two would leave.
        self.answers_by_kind(4, TWOS, [[2, 26, 26, 18]] * 3 + [[1, 26, 26, 26]] * 2)

    def test_five_people(self):
        # By 2 also all as one; all but 2, or all but 4, as one; or 0 with 4, where 2 isn't welcome and 0 isn't let go.
        told = [1, 31, 31, 31]
        self.answers_by_kind(5, FIVE, [told, told, [5, 31, 31, -29], told, told])

    def test_five_in_a_ring(self):
        # Best are two twos; of what is at rest by 2 all as one is worst: 15 from five beside each other, -200 else.
        self.answers_by_kind(5, RING, [[-33], [-33], [16, 6, 6, -185], [-33], [-33]])

    def test_five_and_one_who_is_a_burden(self):
        # 0 likes all and is a burden to each: by 2 they may not go, by the others 0 is alone.
        worth = [0, 20, 20, 20, 20] + [-1, 0, 0, 0, 0] * 4
        told = [15, 76, 0, 0]
        self.answers_by_kind(5, worth, [[-33], told, [52, 76, 76, 0], told, told])


class BestAndWorst(PriceCase):
    """The best of all, the best of the kind and the worst of the kind all differ."""

    def test_at_rest_as_they_like(self):
        # In all ways' order there is 2, 3, -2, 1 and 0 together. 2 goes to 0 and 1, where 0 doesn't welcome them.
        worth = [0, 3, -3,
                 0, 0, 0,
                 1, 1, 0]
        self.answers_by_kind(3, worth, [[2, 3, 2, 1], [3, 3, 3, 1], [4, 3, 3, -2], [4, 3, 3, 0], [-33]])

    def test_at_rest_where_welcome_and_holding(self):
        # In all ways' order there is 2, 1, 1, 0 and 0 together. 2 would be without 0, who would be with both.
        worth = [0, 1, 2,
                 0, 0, 0,
                 -1, 0, 0]
        self.answers_by_kind(3, worth, [[-33], [2, 2, 1, 0], [4, 2, 2, 0], [3, 2, 1, 0], [1, 2, 1, 1]])

    def test_holding_against_weak_leaving(self):
        # In all ways' order there is 3, 1, -2, 4 and 0 together. 1 with 2 is best, but 1 would be alone.
        worth = [0, 0, 1,
                 1, 0, -1,
                 -3, 5, 0]
        self.answers_by_kind(3, worth, [[1, 4, 3, 3], [2, 4, 3, 1], [4, 4, 4, -2], [3, 4, 3, 0], [2, 4, 3, 1]])

    def test_as_those_of_the_kind_have(self):
        numbers = random.Random(19)
        for n in range(1, 6):
            for turn in range(4):
                worth = [numbers.randint(-6, 6) for place in range(n * n)]
                for w in KINDS:
                    told, these = price(n, w, worth), among(n, 0, w, worth)
                    self.assertEqual(told[0], these[0])
                    if told != [-33]:
                        self.assertEqual(told[1:3], [best(n, 0, worth)[-1], these[-1]])
                        self.assertGreaterEqual(told[1], told[2])
                        self.assertGreaterEqual(told[2], told[3])


class PriceEdges(PriceCase):
    def test_worths_all_0(self):
        for n, many in ((1, 1), (2, 2), (3, 5), (4, 15), (5, 52)):
            self.answers_by_kind(n, [0] * (n * n), [[many, 0, 0, 0]] * 5)

    def test_nothing_that_holds(self):
        for w in (3, 4):
            self.answers(5, w, RING, [-33])
        # 0 likes both, to whom all is as good: all ways hold, against weak leaving all as one alone.
        self.answers(3, 3, [0, 1, 1, 0, 0, 0, 0, 0, 0], [5, 2, 2, 0])
        self.answers(3, 4, [0, 1, 1, 0, 0, 0, 0, 0, 0], [1, 2, 2, 2])
        # 2 would be with 1 and not with 0: now some hold, but against weak leaving nothing does.
        self.answers(3, 3, [0, 1, 1, 0, 0, 0, -1, 1, 0], [4, 2, 2, 0])
        self.answers(3, 4, [0, 1, 1, 0, 0, 0, -1, 1, 0], [-33])

    def test_two_of_the_best(self):
        # 0 with 1 or with 2; by 2 all as one, too, and who is left alone would leave with 0, weakly.
        worth = [0, 2, 2, 2, 0, -20, 2, -20, 0]
        self.answers_by_kind(3, worth, [[2, 4, 4, 4], [2, 4, 4, 4], [3, 4, 4, -32], [2, 4, 4, 4], [-33]])
        # 0 and 1 would be apart, and 2 is wherever: three ways are as good.
        self.answers_by_kind(3, [0, -9, 0, -9, 0, 0, 0, 0, 0], [[3, 0, 0, 0]] * 5)

    def test_all_below_0_everybody_alone(self):
        for n in range(1, 6):
            for value in (-1, -20):
                self.answers_by_kind(n, [value] * (n * n), [[1, 0, 0, 0]] * 5)

    def test_20_and_minus_20(self):
        # By 2 all ways are at rest in which nobody is alone; the worst of these are of three and two.
        told = [1, 400, 400, 400]
        self.answers_by_kind(5, [20] * 25, [told, told, [11, 400, 400, 160], told, told])
        self.answers_by_kind(2, [0, 20, -20, 0], [[-33], [1, 0, 0, 0], [2, 0, 0, 0], [1, 0, 0, 0], [1, 0, 0, 0]])
        # 0 and 1 are all to each other, 2 is a burden to both.
        self.answers_by_kind(3, [0, 20, -20, 20, 0, -20, -20, -20, 0], [[1, 40, 40, 40]] * 5)

    def test_worth_to_oneself_means_nothing(self):
        numbers = random.Random(20)
        for n in range(1, 6):
            worth = [numbers.randint(-20, 20) for place in range(n * n)]
            for w in KINDS:
                answers = []
                for own in (-20, -1, 0, 20):
                    for person in range(n):
                        worth[person * n + person] = own
                    answers.append(price(n, w, worth))
                self.assertEqual(answers, [answers[0]] * 4)

    def test_nothing_is_lost_where_all_must_agree(self):
        # Who goes by 2 has more and nobody less: so what has most together is at rest.
        numbers = random.Random(21)
        for n in range(1, 6):
            for turn in range(10):
                told = price(n, 2, [numbers.randint(-20, 20) for place in range(n * n)])
                self.assertGreaterEqual(told[0], 1)
                self.assertEqual(told[1], told[2])

    def test_as_the_words_say_plainly(self):
        numbers = random.Random(22)
        for bound in (1, 2, 6, 20):
            for n in range(1, 6):
                for turn in range(8):
                    worth = [numbers.randint(-bound, bound) for place in range(n * n)]
                    self.answers_by_kind(n, worth, [plainly.price(n, w, worth) for w in KINDS])


class PriceRefused(PriceCase):
    def test_n_or_worth_not_as_told(self):
        for n, worth in handed.wrong_people():
            self.answers_by_kind(n, worth, [[-22]] * 5)

    def test_w_above_4(self):
        for w in (5, 6, 2 ** 31, 2 ** 32 - 1):
            for n in range(1, 6):
                for value in (-20, 0, 20):
                    self.answers(n, w, [value] * (n * n), [-22])

    def test_several_at_once(self):
        for w in (5, 2 ** 32 - 1):
            for n, worth in handed.wrong_people():
                self.answers(n, w, worth, [-22])
        self.answers(0, 5, [21], [-22])
        self.answers(6, 2 ** 32 - 1, [-21] * 27, [-22])
        self.answers(3, 0, [21] * 8, [-22])

    def test_a_refusal_comes_ahead_of_none_of_the_kind(self):
        self.answers(5, 5, RING, [-22])
        self.answers(2, 0, [21, 1, -1, 0], [-22])
        self.answers(2, 0, [0, 1, -1, -21], [-22])


class PriceQuiet(unittest.TestCase):
    def test_prints_reads_and_imports_nothing(self):
        for w in range(6):
            handed.check_quiet(self, price, 5, w, RING)
            handed.check_quiet(self, price, 3, w, THREE)
        handed.check_quiet(self, price, 0, 0, [])


if __name__ == "__main__":
    unittest.main()
