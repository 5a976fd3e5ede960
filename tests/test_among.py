import random
import unittest

import handed
import plainly
from circles.people import among, best
from examples import RING

KINDS = range(5)


class AmongCase(unittest.TestCase):
    def answers(self, n, k, w, worth, told):
        with self.subTest(n=n, k=k, w=w, worth=worth):
            self.assertEqual(handed.check_call(self, among, (n, k, w), worth), told)


class Among(AmongCase):
    def test_one_person(self):
        for own in (-20, 0, 7, 20):
            for k in (0, 1):
                for w in KINDS:
                    self.answers(1, k, w, [own], [1, 0, 0, 0])

    def test_two_who_like_each_other(self):
        for w, many in ((0, 1), (1, 1), (2, 1), (3, 1), (4, 1)):
            self.answers(2, 0, w, [0, 3, 4, 0], [many, 0, 0, 3, 4, 7])
            self.answers(2, 1, w, [0, 3, 4, 0], [many, 0, 0, 3, 4, 3])

    def test_three_of_whom_one_is_liked_by_one(self):
        # Person 1 would be with both, 0 and 2 not with one another.
        worth = [0, 4, -9,
                 3, 0, 2,
                 -9, 6, 0]
        self.answers(3, 0, 0, worth, [1, 0, 0, 1, 4, 3, 0, 7])
        self.answers(3, 1, 0, worth, [1, 0, 0, 1, 4, 3, 0, 0])
        self.answers(3, 0, 1, worth, [1, 0, 0, 1, 4, 3, 0, 7])
        # Where 1 is with 2 and would rather go to 0, 2 doesn't let them; where all are one, 1 lets nobody go.
        self.answers(3, 0, 2, worth, [3, 0, 1, 1, 0, 2, 6, 8])
        self.answers(3, 1, 2, worth, [3, 0, 0, 1, 4, 3, 0, 0])
        for w in (3, 4):
            self.answers(3, 0, w, worth, [1, 0, 0, 1, 4, 3, 0, 7])
            self.answers(3, 1, w, worth, [1, 0, 0, 1, 4, 3, 0, 0])

    def test_four_in_twos(self):
        worth = [0, -1, -1, 8,
                 -1, 0, 6, -1,
                 -1, 7, 0, -1,
                 5, -1, -1, 0]
        # All as one, each has more than alone: nobody goes, but two would leave.
        for w, many in ((0, 2), (1, 2), (2, 2), (3, 1), (4, 1)):
            self.answers(4, 0, w, worth, [many, 0, 1, 1, 0, 8, 6, 7, 5, 26])
            self.answers(4, 1, w, worth, [many, 0, 1, 1, 0, 8, 6, 7, 5, 5])

    def test_five_in_a_ring(self):
        for k in (0, 1):
            for w in (0, 1, 3, 4):
                self.answers(5, k, w, RING, [-33])
        # Nobody is let go by one beside them: all as one, 5 of three and two, 5 of four and one, 5 of two twos and one.
        self.answers(5, 0, 2, RING, [16, 0, 0, 1, 1, 2, 2, 1, 2, 1, 0, 6])
        self.answers(5, 1, 2, RING, [16, 0, 0, 1, 1, 2, 2, 1, 2, 1, 0, 0])

    def test_five_and_the_best_is_not_of_the_kind(self):
        # Person 0 likes all and is a burden to each.
        worth = [0, 20, 20, 20, 20] + [-1, 0, 0, 0, 0] * 4
        self.assertEqual(best(5, 0, worth), [1] + [0] * 5 + [80, -1, -1, -1, -1, 76])
        self.answers(5, 0, 0, worth, [-33])
        # 0 is alone, the others are in groups as they like: 15 ways.
        for w in (1, 3, 4):
            self.answers(5, 0, w, worth, [15, 0, 1, 1, 1, 1, 0, 0, 0, 0, 0, 0])
            self.answers(5, 1, w, worth, [15, 0, 1, 1, 1, 1, 0, 0, 0, 0, 0, 0])


class KindsDiffer(AmongCase):
    def test_would_rather_go_but_is_not_welcome(self):
        # Apart 0 would go to 1, together 1 would be alone.
        worth = [0, 1, -1, 0]
        self.answers(2, 0, 0, worth, [-33])
        self.answers(2, 1, 0, worth, [-33])
        self.answers(2, 0, 1, worth, [1, 0, 1, 0, 0, 0])
        self.answers(2, 1, 1, worth, [1, 0, 1, 0, 0, 0])

    def test_is_welcome_but_not_let_go(self):
        # Alone one is welcome always; 0 would have less if 1 went.
        worth = [0, 1, -1, 0]
        self.answers(2, 0, 2, worth, [2, 0, 0, 1, -1, 0])
        self.answers(2, 1, 2, worth, [2, 0, 1, 0, 0, 0])

    def test_welcome_where_nobody_has_less(self):
        # To be worth 0 there is to be welcome.
        self.answers(2, 0, 1, [0, 1, 0, 0], [1, 0, 0, 1, 0, 1])
        # One there who'd have less is enough, whatever the others would have: 0 stays alone by 1, not by 0.
        worth = [0, 5, 5, -1, 0, 9, 8, 9, 0]
        self.answers(3, 0, 0, worth, [1, 0, 0, 0, 10, 8, 17, 35])
        self.answers(3, 0, 1, worth, [2, 0, 0, 0, 10, 8, 17, 35])
        self.answers(3, 1, 1, worth, [2, 0, 0, 0, 10, 8, 17, 8])

    def test_let_go_where_nobody_has_less(self):
        # To be worth 0 to those one leaves is to be let go.
        self.answers(2, 0, 2, [0, 0, -1, 0], [1, 0, 1, 0, 0, 0])
        # One who'd have less is enough, whatever the others would have: 1 lets 0 go neither from 1 nor from all.
        worth = [0, -5, -5, 1, 0, 0, -9, 10, 0]
        self.answers(3, 0, 1, worth, [1, 0, 1, 1, 0, 0, 10, 10])
        self.answers(3, 0, 2, worth, [3, 0, 1, 1, 0, 0, 10, 10])
        self.answers(3, 1, 2, worth, [3, 0, 1, 1, 0, 0, 10, 0])

    def test_like_worth_is_no_reason_to_go(self):
        self.answers(2, 0, 0, [0, 0, 0, 0], [2, 0, 0, 0, 0, 0])
        self.answers(3, 1, 0, [0, 1, 1, 1, 0, -9, 1, -9, 0], [2, 0, 0, 1, 1, 1, 0, 0])

    def test_hold_but_not_against_weak_leaving(self):
        # Apart 0 would have more with 1, and 1 as much.
        worth = [0, 1, 0, 0]
        self.answers(2, 0, 3, worth, [2, 0, 0, 1, 0, 1])
        self.answers(2, 1, 3, worth, [2, 0, 0, 1, 0, 0])
        self.answers(2, 0, 4, worth, [1, 0, 0, 1, 0, 1])
        self.answers(2, 1, 4, worth, [1, 0, 0, 1, 0, 0])

    def test_a_set_may_leave_where_nobody_would_go(self):
        # All as one: 0 and 1 would be rid of 2 only by leaving both.
        worth = [0, 5, -4, 5, 0, -4, 1, 1, 0]
        self.assertEqual(among(3, 0, 0, worth), [1, 0, 0, 0, 1, 1, 2, 4])
        self.answers(3, 0, 3, worth, [1, 0, 0, 1, 5, 5, 0, 10])
        self.answers(3, 0, 4, worth, [1, 0, 0, 1, 5, 5, 0, 10])

    def test_nothing_holds_against_weak_leaving(self):
        worth = [0, 1, 1, 0, 0, 0, -1, 1, 0]
        for k in (0, 1):
            self.answers(3, k, 4, worth, [-33])
            self.assertNotEqual(among(3, k, 3, worth), [-33])


class AmongEdges(AmongCase):
    def test_worths_all_0(self):
        for n, many in ((1, 1), (2, 2), (3, 5), (4, 15), (5, 52)):
            for k in (0, 1):
                for w in KINDS:
                    self.answers(n, k, w, [0] * (n * n), [many] + [0] * n + [0] * n + [0])

    def test_all_below_0_everybody_alone(self):
        for n in range(1, 6):
            for k in (0, 1):
                for value in (-1, -20):
                    for w in KINDS:
                        self.answers(n, k, w, [value] * (n * n), [1] + list(range(n)) + [0] * n + [0])

    def test_all_at_20(self):
        # Who leaves a group is missed there: by 2 all ways are at rest in which nobody is alone.
        for w, many in ((0, 1), (1, 1), (2, 11), (3, 1), (4, 1)):
            self.answers(5, 0, w, [20] * 25, [many] + [0] * 5 + [80] * 5 + [400])
            self.answers(5, 1, w, [20] * 25, [many] + [0] * 5 + [80] * 5 + [80])

    def test_of_two_best_the_first_of_all_ways(self):
        worth = [0, 2, 2, 2, 0, -20, 2, -20, 0]
        # By 2 all as one is of the kind, too: 0 lets nobody go.
        for w, many in ((0, 2), (1, 2), (2, 3), (3, 2)):
            self.answers(3, 0, w, worth, [many, 0, 0, 1, 2, 2, 0, 4])
            self.answers(3, 1, w, worth, [many, 0, 0, 1, 2, 2, 0, 0])
        # The first of all ways isn't of the kind: the first of those that are is answered.
        worth = [0, -9, 0, -9, 0, 0, 0, 0, 0]
        for w in KINDS:
            self.answers(3, 0, w, worth, [3, 0, 1, 0, 0, 0, 0, 0])

    def test_worth_to_oneself_means_nothing(self):
        numbers = random.Random(3)
        for n in range(1, 6):
            worth = [numbers.randint(-20, 20) for place in range(n * n)]
            for w in KINDS:
                answers = []
                for own in (-20, -1, 0, 20):
                    for person in range(n):
                        worth[person * n + person] = own
                    answers.append(among(n, 0, w, worth))
                self.assertEqual(answers, [answers[0]] * 4)

    def test_worth_as_much_the_other_way_round_is_at_rest_at_the_best(self):
        numbers = random.Random(4)
        for n in range(1, 6):
            for turn in range(10):
                worth = [0] * (n * n)
                for i in range(n):
                    for j in range(i):
                        worth[i * n + j] = worth[j * n + i] = numbers.randint(-20, 20)
                self.assertEqual(among(n, 0, 0, worth)[1:], best(n, 0, worth)[1:])

    def test_as_the_words_say_plainly(self):
        numbers = random.Random(5)
        for bound in (1, 2, 6, 20):
            for n in range(1, 6):
                for turn in range(6):
                    worth = [numbers.randint(-bound, bound) for place in range(n * n)]
                    for k in (0, 1):
                        for w in KINDS:
                            self.answers(n, k, w, worth, plainly.among(n, k, w, worth))


class AmongRefused(AmongCase):
    def test_n_or_worth_not_as_told(self):
        for n, worth in handed.wrong_people():
            self.answers(n, 0, 0, worth, [-22])
            self.answers(n, 1, 4, worth, [-22])

    def test_k_above_1(self):
        for k in (2, 3, 4, 2 ** 31, 2 ** 32 - 1):
            for n in range(1, 6):
                for w in KINDS:
                    self.answers(n, k, w, [0] * (n * n), [-22])

    def test_w_above_4(self):
        for w in (5, 6, 2 ** 31, 2 ** 32 - 1):
            for n in range(1, 6):
                for k in (0, 1):
                    self.answers(n, k, w, [0] * (n * n), [-22])

    def test_several_at_once(self):
        for k, w in ((2, 0), (0, 5), (2, 5), (2 ** 32 - 1, 2 ** 32 - 1)):
            for n, worth in handed.wrong_people():
                self.answers(n, k, w, worth, [-22])
        self.answers(2, 2, 5, [0] * 4, [-22])

    def test_a_refusal_comes_ahead_of_none_of_the_kind(self):
        self.answers(2, 2, 0, [0, 1, -1, 0], [-22])
        self.answers(5, 0, 5, RING, [-22])
        self.answers(2, 0, 0, [21, 1, -1, 0], [-22])


class AmongQuiet(unittest.TestCase):
    def test_prints_reads_and_imports_nothing(self):
        for w in range(6):
            handed.check_quiet(self, among, 5, 0, w, RING)
            handed.check_quiet(self, among, 3, 1, w, [0, 4, -9, 3, 0, 2, -9, 6, 0])


if __name__ == "__main__":
    unittest.main()
