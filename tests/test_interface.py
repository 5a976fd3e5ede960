"""The six functions as the document names them, and that none keeps anything for another."""

import inspect
import unittest

import circles.people
import handed
from examples import FIVE, RING, THREE, TWOS

ARGUMENTS = {"best": ["n", "k", "worth"], "among": ["n", "k", "w", "worth"], "beaten": ["n", "worth", "groups"],
             "unbeaten": ["n", "worth"], "envies": ["n", "worth", "groups"], "price": ["n", "w", "worth"]}


def calls():
    """Every function by name, with plain values, wrong ones among them."""
    for n, worth, groups in ((1, [7], [0]), (3, THREE, [2, 0, 2]), (4, TWOS, [0, 0, 1, 1]), (5, FIVE, [4, 0, 4, 0, 3]),
                             (5, RING, [0, 1, 2, 3, 4]), (0, [], []), (3, [21] * 9, [0, 1, 3]), (6, [0] * 27, [9] * 7)):
        for name, arguments in ARGUMENTS.items():
            for number in (0, 1, 4, 5):
                values = {"n": n, "k": number % 4, "w": number, "worth": worth, "groups": groups}
                yield name, [values[argument] for argument in arguments]


class Interface(unittest.TestCase):
    def test_names_and_arguments(self):
        for name, arguments in ARGUMENTS.items():
            signature = inspect.signature(getattr(circles.people, name))
            self.assertEqual(list(signature.parameters), arguments)
            for parameter in signature.parameters.values():
                self.assertIs(parameter.kind, inspect.Parameter.POSITIONAL_OR_KEYWORD)
                self.assertIs(parameter.default, inspect.Parameter.empty)

    def test_each_call_is_as_if_for_the_first_time(self):
        there = [getattr(circles.people, name)(*handed_in) for name, handed_in in calls()]
        back = [getattr(circles.people, name)(*handed_in) for name, handed_in in reversed(list(calls()))]
        self.assertEqual(there, back[::-1])

    def test_what_is_handed_in_and_what_comes_back(self):
        for name, handed_in in calls():
            numbers = [value for value in handed_in if isinstance(value, int)]
            lists = [value for value in handed_in if isinstance(value, list)]
            with self.subTest(name=name, handed_in=handed_in):
                told = handed.check_call(self, getattr(circles.people, name), numbers, *lists)
                # Below 0 just where it is a refusal, which is its number alone.
                self.assertEqual(told[0] < 0, told in ([-22], [-33]))
                if told[0] >= 0:
                    n = handed_in[0]
                    others = {"best": 2 * n + 1, "among": 2 * n + 1, "beaten": 2 * n, "unbeaten": n,
                              "envies": 2 * told[0], "price": 3}
                    self.assertEqual(len(told) - 1, others[name])

    def test_nothing_is_printed_read_or_imported(self):
        for name, handed_in in calls():
            handed.check_quiet(self, getattr(circles.people, name), *handed_in)


if __name__ == "__main__":
    unittest.main()
