"""Checks that hold for every call: what is handed in, what comes back, what is kept and what is touched."""

import builtins
import contextlib
import io
from unittest import mock


class Untouched(list):
    """A list that can be read alone: a change, even one that is taken back, is an error."""

    def refuse(self, *args, **kwargs):
        raise AssertionError("what was handed in is changed")

    __setitem__ = __delitem__ = __iadd__ = __imul__ = refuse
    append = extend = insert = pop = remove = clear = sort = reverse = refuse


def check_call(case, call, numbers, *lists):
    """Call with lists that can't be changed, then once more with plain ones; give back the answer."""
    given = [list(one) for one in lists]
    locked = [Untouched(one) for one in given]
    first = call(*numbers, *locked)
    case.assertEqual([list(one) for one in locked], given)
    case.assertIs(type(first), list)
    for number in first:
        case.assertIs(type(number), int)
    kept = list(first)
    first.append(99)
    first[0] = 77
    case.assertEqual(call(*numbers, *given), kept)
    case.assertEqual(given, [list(one) for one in lists])
    return kept


def check_quiet(case, call, *handed):
    """Call with nothing to print to, to read from or to import by."""
    def refuse(*args, **kwargs):
        raise AssertionError("something is printed, read or imported")
    out, err = io.StringIO(), io.StringIO()
    with contextlib.redirect_stdout(out), contextlib.redirect_stderr(err):
        with mock.patch.object(builtins, "print", refuse), mock.patch.object(builtins, "open", refuse), \
                mock.patch.object(builtins, "input", refuse), mock.patch.object(builtins, "__import__", refuse):
            call(*handed)
    case.assertEqual((out.getvalue(), err.getvalue()), ("", ""))


def wrong_people():
    """Pairs of n and worth that aren't as told."""
    pairs = [(0, []), (0, [0]), (6, [0] * 27), (6, [0] * 36), (6, []), (2 ** 32 - 1, []), (2 ** 32 - 1, [0]),
             (2 ** 31, [0] * 27)]
    for n in range(1, 6):
        pairs += [(n, []), (n, [0] * (n * n - 1)), (n, [0] * (n * n + 1)), (n, [0] * 27)]
        pairs += [(n, [0] * place + [value] + [0] * (n * n - place - 1))
                  for place in range(n * n) for value in (-21, 21, -2 ** 31, 2 ** 31 - 1)]
    pairs += [(1, [0, 0, 0, 0]), (2, [0] * 9), (3, [0] * 4), (4, [0] * 25), (5, [0] * 16)]
    return pairs


def wrong_groups(n):
    """Groups that don't tell a number below n for each of n people."""
    these = [[0] * many for many in range(8) if many != n]
    these += [[0] * place + [number] + [0] * (n - place - 1)
              for place in range(n) for number in (n, n + 1, 2 ** 31, 2 ** 32 - 1)]
    # Numbered from 1, not from 0; and a number that is too large behind or ahead of where a list may end.
    these += [list(range(1, n + 1)), [0] * n + [n], [n] * (n - 1), [2 ** 32 - 1] * 7]
    return these
