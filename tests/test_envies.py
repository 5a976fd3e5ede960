import itertools
import random
import unittest

import handed
import plainly
from circles.people import envies
from examples import FIVE, RING, THREE, TWOS


class EnviesCase(unittest.TestCase):
    def answers(self, n, worth, groups, told):
        with self.subTest(n=n, worth=worth, groups=groups):
            self.assertEqual(handed.check_call(self, envies, (n,), worth, groups), told)


class Envies(EnviesCase):
    def test_one_person(self):
        for own in (-20, 0, 7, 20):
            self.answers(1, [own], [0], [0])

    def test_two_people(self):
        # Apart each would be alone in the other's place, together they are of one group.
        for worth in ([0, 3, 4, 0], [0, -3, -4, 0], [0, 20, -20, 0], [0, 0, 0, 0]):
            for groups in ([0, 0], [0, 1]):
                self.answers(2, worth, groups, [0])

    def test_three_people(self):
        # 2 would be with 1, and a little with 0: several are envied by one.
        self.answers(3, THREE, [0, 0, 1], [2, 2, 0, 2, 1])
        # 0 would be alone, 1 with either: 0 and 1 envy one another.
        self.answers(3, THREE, [0, 1, 0], [3, 0, 1, 1, 0, 1, 2])
        self.answers(3, THREE, [0, 1, 1], [1, 0, 2])
        self.answers(3, THREE, [0, 0, 0], [0])
        self.answers(3, THREE, [0, 1, 2], [0])

    def test_four_in_twos(self):
        self.answers(4, TWOS, [0, 1, 1, 0], [0])
        self.answers(4, TWOS, [0, 1, 1, 2], [0])
        # Each would be with the one they like: 0 and 2 envy one another, 1 and 3 do.
        self.answers(4, TWOS, [0, 0, 1, 1], [4, 0, 2, 1, 3, 2, 0, 3, 1])
        self.answers(4, TWOS, [0, 0, 0, 1], [3, 0, 3, 3, 1, 3, 2])

    def test_five_people(self):
        self.answers(5, FIVE, [0, 1, 0, 1, 0], [0])
        # 4 would be with 0, not with 2.
        self.answers(5, FIVE, [0, 1, 0, 1, 2], [1, 4, 2])
        self.answers(5, FIVE, [0, 0, 1, 1, 2],
                     [9, 0, 3, 0, 4, 1, 2, 1, 4, 2, 1, 2, 4, 3, 0, 3, 4, 4, 1])

    def test_five_in_a_ring(self):
        self.answers(5, RING, [0, 0, 1, 1, 2], [3, 1, 3, 4, 1, 4, 2])
        self.answers(5, RING, [0, 0, 0, 0, 0], [0])
        self.answers(5, RING, [0, 1, 2, 3, 4], [0])

    def test_several_envy_the_same_one(self):
        # 3 is with 0, whom 1 and 2 like, too; 0 themselves is envied by nobody.
        worth = [0, 0, 0, 5,
                 4, 0, 0, 0,
                 3, 0, 0, 0,
                 1, 0, 0, 0]
        self.answers(4, worth, [0, 1, 2, 0], [2, 1, 3, 2, 3])

    def test_as_much_is_no_envy(self):
        # To be with one who is worth 0 is no more than to be alone.
        self.answers(3, [0] * 9, [0, 0, 1], [0])
        # If all are worth as much, in twos each place is as good.
        for value in (-20, -1, 1, 20):
            self.answers(4, [value] * 16, [0, 0, 1, 1], [0])
            self.answers(4, [value] * 16, [0, 1, 1, 0], [0])
        # One more is enough.
        self.answers(4, [0, 4, 0, 5] + [0] * 12, [0, 0, 1, 1], [1, 0, 2])
        self.answers(4, [0, 5, 0, 5] + [0] * 12, [0, 0, 1, 1], [0])


class WhoIsCounted(EnviesCase):
    def test_nobody_envies_one_of_their_own_group(self):
        # Without 2 both 0 and 1 would have more, without 0 2 would: but they are in one group.
        worth = [0, 20, -20, 20, 0, -20, -20, 20, 0]
        for number in (0, 1, 2):
            self.answers(3, worth, [number] * 3, [0])
        # 2 is a burden to 0 and 1, who envy 3 alone.
        worth = [0, 1, -9, 0, 1, 0, -9, 0, 0, 0, 0, 0, 0, 0, 0, 0]
        self.answers(4, worth, [0, 0, 0, 1], [2, 0, 3, 1, 3])

    def test_who_is_envied_is_not_counted(self):
        # 2 likes 0 alone: so it is 1 whose place is envied.
        self.answers(3, [0, 0, 0, 0, 0, 0, 20, -1, 0], [0, 0, 1], [1, 2, 1])
        # With both 2 would have 1, but without 0 less than alone.
        self.answers(3, [0, 0, 0, 0, 0, 0, 20, -19, 0], [0, 0, 1], [1, 2, 1])
        # With both 2 would have less than alone, but without 0 more.
        self.answers(3, [0, 0, 0, 0, 0, 0, -20, 1, 0], [0, 0, 1], [1, 2, 0])
        # With all three 3 would have 2; without 0 it is 3, without 1 it is 1, without 2 nothing.
        worth = [0] * 12 + [-1, 1, 2, 0]
        self.answers(4, worth, [0, 0, 0, 1], [2, 3, 0, 3, 1])

    def test_a_group_of_one_without_them_is_nobody(self):
        # However much 1 is worth to 0: there 0 would have 0.
        for value in (-20, 0, 20):
            self.answers(3, [0, value, 1, 0, 0, 0, 0, 0, 0], [0, 1, 0], [0])
            self.answers(3, [0, value, 0, 0, 0, 0, 0, 0, 0], [0, 1, 0], [0])
            self.answers(3, [0, value, -1, 0, 0, 0, 0, 0, 0], [0, 1, 0], [1, 0, 1])

    def test_what_others_would_have_does_not_count(self):
        # Nobody likes 2, who envies both of the others all the same.
        self.answers(3, [0, 5, -20, 5, 0, -20, 1, 1, 0], [0, 0, 1], [2, 2, 0, 2, 1])


class OtherNumbers(EnviesCase):
    def test_the_same_groups_by_other_numbers(self):
        for groups in ([2, 0, 2], [1, 2, 1], [0, 2, 0], [1, 0, 1], [2, 1, 2]):
            self.answers(3, THREE, groups, [3, 0, 1, 1, 0, 1, 2])
        for groups in ([1, 1, 0], [2, 2, 0], [1, 1, 2], [2, 2, 1], [0, 0, 2]):
            self.answers(3, THREE, groups, [2, 2, 0, 2, 1])
        for groups in ([2, 1, 0], [1, 2, 0], [2, 0, 1], [2, 2, 2], [1, 1, 1]):
            self.answers(3, THREE, groups, [0])
        self.answers(2, [0, 3, 4, 0], [1, 0], [0])
        self.answers(4, TWOS, [3, 3, 1, 1], [4, 0, 2, 1, 3, 2, 0, 3, 1])
        self.answers(4, TWOS, [2, 2, 2, 0], [3, 0, 3, 3, 1, 3, 2])
        self.answers(5, FIVE, [4, 0, 4, 0, 3], [1, 4, 2])
        self.answers(5, RING, [4, 4, 0, 0, 2], [3, 1, 3, 4, 1, 4, 2])

    def test_all_numbers_that_may_be(self):
        numbers = random.Random(16)
        for n in range(1, 5):
            worth = [numbers.randint(-3, 3) for place in range(n * n)]
            for groups in itertools.product(range(n), repeat=n):
                told = plainly.envies(n, worth, plainly.renumbered(groups))
                self.answers(n, worth, list(groups), told)


class EnviesEdges(EnviesCase):
    def test_worths_all_0(self):
        for n in range(1, 6):
            for way in plainly.ways(n):
                self.answers(n, [0] * (n * n), list(way), [0])

    def test_all_below_0(self):
        for n in range(1, 6):
            for value in (-1, -20):
                self.answers(n, [value] * (n * n), list(range(n)), [0])
                self.answers(n, [value] * (n * n), [0] * n, [0])

    def test_one_who_is_envied_by_all(self):
        # 0 alone is rid of the others, who have one another.
        for value in (-1, -20):
            self.answers(5, [value] * 25, [0, 1, 1, 1, 1], [4, 1, 0, 2, 0, 3, 0, 4, 0])
            self.answers(5, [value] * 25, [0, 0, 0, 0, 1], [4, 0, 4, 1, 4, 2, 4, 3, 4])
        # 0 is with 4, whom all like: all but 4 themselves envy 0.
        worth = [0, 0, 0, 0, 20] * 4 + [0] * 5
        self.answers(5, worth, [0, 1, 2, 3, 0], [3, 1, 0, 2, 0, 3, 0])

    def test_one_who_envies_all(self):
        self.answers(5, [20] * 25, [0, 0, 0, 0, 1], [4, 4, 0, 4, 1, 4, 2, 4, 3])
        self.answers(5, [20] * 25, [0, 1, 1, 1, 1], [4, 0, 1, 0, 2, 0, 3, 0, 4])

    def test_20_and_minus_20(self):
        # Three and two: more is had with two others than with one, or less.
        self.answers(5, [20] * 25, [0, 0, 0, 1, 1], [6, 3, 0, 3, 1, 3, 2, 4, 0, 4, 1, 4, 2])
        self.answers(5, [-20] * 25, [0, 0, 0, 1, 1], [6, 0, 3, 0, 4, 1, 3, 1, 4, 2, 3, 2, 4])
        worth = [0, 20, -20, 20, 0, -20, -20, -20, 0]
        self.answers(3, worth, [0, 0, 1], [0])
        self.answers(3, worth, [0, 1, 1], [3, 0, 2, 1, 0, 2, 0])

    def test_worth_to_oneself_means_nothing(self):
        numbers = random.Random(17)
        for n in range(1, 6):
            worth = [numbers.randint(-20, 20) for place in range(n * n)]
            for way in plainly.ways(n):
                answers = []
                for own in (-20, -1, 0, 20):
                    for person in range(n):
                        worth[person * n + person] = own
                    answers.append(envies(n, worth, list(way)))
                self.assertEqual(answers, [answers[0]] * 4)

    def test_as_the_words_say_plainly(self):
        numbers = random.Random(18)
        for bound in (1, 2, 6, 20):
            for n in range(1, 6):
                for turn in range(30):
                    worth = [numbers.randint(-bound, bound) for place in range(n * n)]
                    groups = [numbers.randrange(n) for person in range(n)]
                    self.answers(n, worth, groups, plainly.envies(n, worth, groups))


class EnviesRefused(EnviesCase):
    def test_n_or_worth_not_as_told(self):
        for n, worth in handed.wrong_people():
            # As told, where a list of at most 7 can be.
            self.answers(n, worth, [0] * min(n, 7), [-22])
            self.answers(n, worth, list(range(min(n, 7))), [-22])

    def test_groups_not_as_told(self):
        for n in range(1, 6):
            for groups in handed.wrong_groups(n):
                for value in (-20, 0, 20):
                    self.answers(n, [value] * (n * n), groups, [-22])

    def test_the_last_number_that_may_be(self):
        for n in range(1, 6):
            self.answers(n, [0] * (n * n), [n - 1] * n, [0])

    def test_several_at_once(self):
        for n, worth in handed.wrong_people():
            for groups in ([], [0] * 7, [n] * min(n, 7), [2 ** 32 - 1] * min(n, 7), [2 ** 32 - 1] * 7):
                self.answers(n, worth, groups, [-22])
        self.answers(0, [21], [0], [-22])
        self.answers(6, [-21] * 27, [6] * 6, [-22])


class EnviesQuiet(unittest.TestCase):
    def test_prints_reads_and_imports_nothing(self):
        for groups in ([0, 0, 0], [2, 0, 2], [0, 0, 1], [0, 1, 3], []):
            handed.check_quiet(self, envies, 3, THREE, groups)
        handed.check_quiet(self, envies, 5, RING, [0, 0, 1, 1, 2])
        handed.check_quiet(self, envies, 0, [], [])


if __name__ == "__main__":
    unittest.main()
