import random
import unittest

import handed
import plainly
from circles.people import best


class Best(unittest.TestCase):
    def answers(self, n, k, worth, told):
        self.assertEqual(handed.check_call(self, best, (n, k), worth), told)

    def test_one_person(self):
        for own in (-20, 0, 7, 20):
            for k in (0, 1):
                self.answers(1, k, [own], [1, 0, 0, 0])

    def test_two_people(self):
        self.answers(2, 0, [0, 3, 4, 0], [1, 0, 0, 3, 4, 7])
        self.answers(2, 1, [0, 3, 4, 0], [1, 0, 0, 3, 4, 3])
        # More together, but one has less than alone.
        self.answers(2, 0, [0, 5, -1, 0], [1, 0, 0, 5, -1, 4])
        self.answers(2, 1, [0, 5, -1, 0], [2, 0, 1, 0, 0, 0])
        self.answers(2, 0, [0, 1, -5, 0], [2, 0, 1, 0, 0, 0])

    def test_three_people(self):
        worth = [0, 4, -9,
                 3, 0, 2,
                 1, 6, 0]
        self.answers(3, 0, worth, [2, 0, 1, 1, 0, 2, 6, 8])
        self.answers(3, 1, worth, [2, 0, 0, 1, 4, 3, 0, 0])
        worth = [9, 2, 3, 4, 9, 5, 6, 7, 9]
        self.answers(3, 0, worth, [1, 0, 0, 0, 5, 9, 13, 27])
        self.answers(3, 1, worth, [1, 0, 0, 0, 5, 9, 13, 5])

    def test_the_person_outside_may_be_any(self):
        worth = [0, 1, 5, -9, 0, -9, 5, 1, 0]
        self.answers(3, 0, worth, [2, 0, 1, 0, 5, 0, 5, 10])
        self.answers(3, 1, worth, [2, 0, 1, 0, 5, 0, 5, 0])

    def test_four_people_in_twos(self):
        worth = [0, -1, -1, 8,
                 -1, 0, 6, -1,
                 -1, 7, 0, -1,
                 5, -1, -1, 0]
        self.answers(4, 0, worth, [2, 0, 1, 1, 0, 8, 6, 7, 5, 26])
        self.answers(4, 1, worth, [2, 0, 1, 1, 0, 8, 6, 7, 5, 5])

    def test_five_people(self):
        worth = [0, -5, 3, -5, 2,
                 -5, 0, -5, 9, -5,
                 4, -5, 0, -5, 1,
                 -5, 8, -5, 0, -5,
                 6, -5, -2, -5, 0]
        self.answers(5, 0, worth, [2, 0, 1, 0, 1, 0, 5, 9, 5, 8, 4, 31])
        self.answers(5, 1, worth, [2, 0, 1, 0, 1, 0, 5, 9, 5, 8, 4, 4])

    def test_the_least_may_ask_for_other_groups_than_all_together(self):
        # All as one: 20 for person 0, at the others' cost; by the least everybody has 1 or more in twos.
        worth = [0, 1, 20, 20, 1, 0, -1, -1, 0, -1, 0, 2, 0, -1, 2, 0]
        self.answers(4, 0, worth, [2, 0, 1, 0, 0, 40, 0, 2, 2, 44])
        self.answers(4, 1, worth, [2, 0, 0, 1, 1, 1, 1, 2, 2, 1])

    def test_worths_all_0(self):
        for n in range(1, 6):
            for k in (0, 1):
                self.answers(n, k, [0] * (n * n), [1] + [0] * n + [0] * n + [0])

    def test_of_two_best_the_first_of_all_ways(self):
        worth = [0, 2, 2, 2, 0, -20, 2, -20, 0]
        self.answers(3, 0, worth, [2, 0, 0, 1, 2, 2, 0, 4])
        # By the least, all but all as one give 0 to somebody, and so does the first of them.
        self.answers(3, 1, worth, [2, 0, 0, 1, 2, 2, 0, 0])
        # The first way is by the first number that differs, not by how many groups there are.
        worth = [0, -9, 0, -9, 0, 0, 0, 0, 0]
        self.answers(3, 0, worth, [2, 0, 1, 0, 0, 0, 0, 0])
        self.answers(3, 1, worth, [2, 0, 1, 0, 0, 0, 0, 0])

    def test_all_below_0_everybody_alone(self):
        for n in range(1, 6):
            for k in (0, 1):
                for value in (-1, -20):
                    self.answers(n, k, [value] * (n * n), [n] + list(range(n)) + [0] * n + [0])

    def test_worths_at_the_bounds(self):
        self.answers(5, 0, [20] * 25, [1] + [0] * 5 + [80] * 5 + [400])
        self.answers(5, 1, [20] * 25, [1] + [0] * 5 + [80] * 5 + [80])
        self.answers(2, 0, [0, 20, -20, 0], [1, 0, 0, 20, -20, 0])
        self.answers(2, 1, [0, 20, -20, 0], [2, 0, 1, 0, 0, 0])

    def test_what_one_has_may_be_below_0(self):
        self.answers(3, 0, [0, -3, -4, 9, 0, 0, 9, 0, 0], [1, 0, 0, 0, -7, 9, 9, 11])

    def test_worth_to_oneself_means_nothing(self):
        others = random.Random(1)
        for n in range(1, 6):
            worth = [others.randint(-20, 20) for place in range(n * n)]
            for k in (0, 1):
                answers = []
                for own in (-20, -1, 0, 20):
                    for person in range(n):
                        worth[person * n + person] = own
                    answers.append(best(n, k, worth))
                self.assertEqual(answers, [answers[0]] * 4)

    def test_as_the_words_say_plainly(self):
        numbers = random.Random(2)
        for bound in (1, 2, 6, 20):
            for n in range(1, 6):
                for turn in range(12):
                    worth = [numbers.randint(-bound, bound) for place in range(n * n)]
                    for k in (0, 1):
                        with self.subTest(n=n, k=k, worth=worth):
                            self.answers(n, k, worth, plainly.best(n, k, worth))


class BestRefused(unittest.TestCase):
    def refused(self, n, k, worth):
        with self.subTest(n=n, k=k, worth=worth):
            self.assertEqual(handed.check_call(self, best, (n, k), worth), [-22])

    def test_n_or_worth_not_as_told(self):
        for n, worth in handed.wrong_people():
            for k in (0, 1):
                self.refused(n, k, worth)

    def test_k_above_1(self):
        for k in (2, 3, 2 ** 31, 2 ** 32 - 1):
            for n in range(1, 6):
                self.refused(n, k, [0] * (n * n))

    def test_several_at_once(self):
        for k in (2, 2 ** 32 - 1):
            for n, worth in handed.wrong_people():
                self.refused(n, k, worth)
        self.refused(0, 2, [21])
        self.refused(6, 2 ** 32 - 1, [-21] * 27)


class BestQuiet(unittest.TestCase):
    def test_prints_reads_and_imports_nothing(self):
        for k in (0, 1, 2):
            handed.check_quiet(self, best, 3, k, [0, 4, -9, 3, 0, 2, 1, 6, 0])
        handed.check_quiet(self, best, 0, 0, [])


if __name__ == "__main__":
    unittest.main()
