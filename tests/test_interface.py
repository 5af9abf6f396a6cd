"""What the interface says of answers itself, whatever is asked."""

import builtins
import contextlib
import io
import sys
import unittest
from unittest import mock

from tests.helper import BEGINS, HIGHEST, THING, joined, line, says, tie, unsay
from thingssaid.house import answers

CALLS = joined([
    THING, line([2, 0], [6, 0, 2, 1]), says(0, 5, 2, 0), says(1, 0), tie(0, 0, 0), tie(2, 0, 0), unsay(0), unsay(0),
    line([8]), BEGINS, THING, THING, says(1, 7, 1, 2, 3), says(HIGHEST, 2, 3), tie(1, 1, 0), unsay(HIGHEST), unsay(0),
])
ANSWERED = [0, 0, 0, -2, 0, -1, 0, -2, -1, 0, 0, 1, 0, -2, 0, -2, 0]


class Watched(list):
    """A list that cannot be changed, not for a while either."""

    def refuse(self, *given, **named):
        raise AssertionError("what is handed in was changed")

    append = extend = insert = pop = remove = clear = sort = reverse = refuse
    __setitem__ = __delitem__ = __iadd__ = __imul__ = refuse


def calls_within_one_another(calls):
    """How deep the calls of Python's functions go while answers is at work."""
    depths = [0]

    def watch(frame, event, given):
        if event == "call":
            depths.append(depths[-1] + 1)
        elif event == "return":
            depths.append(depths[-1] - 1)

    before = sys.getprofile()
    sys.setprofile(watch)
    try:
        answers(calls)
    finally:
        sys.setprofile(before)
    return max(depths)


class Answers(unittest.TestCase):
    def test_how_many_then_these(self):
        self.assertEqual(answers(list(CALLS)), [number for answer in ANSWERED for number in (1, answer)])

    def test_a_list_of_whole_numbers(self):
        told = answers(list(CALLS))
        self.assertIs(type(told), list)
        self.assertEqual({type(number) for number in told}, {int})

    def test_what_is_handed_in_is_as_it_was(self):
        calls = list(CALLS)
        first = answers(calls)
        self.assertEqual(calls, CALLS)
        self.assertEqual(answers(calls), first)
        self.assertEqual(calls, CALLS)

    def test_what_is_handed_in_is_not_changed_for_a_while(self):
        self.assertEqual(answers(Watched(CALLS)), answers(list(CALLS)))

    def test_nothing_is_kept(self):
        first = answers(list(CALLS))
        full = [THING] * 3 + [line([2, 0], [2, 1])] * 5 + [says(2, 2, 2)] * 6 + [tie(0, 0, 1)] * 6
        answers(joined(full))
        self.assertEqual(answers(list(CALLS)), first)
        self.assertEqual(answers([2]), [1, 0])
        self.assertEqual(answers([2]), [1, 0])
        self.assertEqual(answers([5, 0]), [1, -2])
        self.assertEqual(answers([3, 0, 1, 0]), [1, -2])

    def test_what_is_given_back_is_not_kept(self):
        first = answers(list(CALLS))
        whole = list(first)
        first.clear()
        self.assertEqual(answers(list(CALLS)), whole)

    def test_nothing_is_printed(self):
        out = io.StringIO()
        with contextlib.redirect_stdout(out), contextlib.redirect_stderr(out):
            answers(list(CALLS))
        self.assertEqual(out.getvalue(), "")

    def test_nothing_is_read_or_imported(self):
        refused = AssertionError("answers reads or imports")
        with mock.patch.object(builtins, "__import__", side_effect=refused), \
                mock.patch.object(builtins, "open", side_effect=refused), \
                mock.patch.object(builtins, "input", side_effect=refused):
            told = answers(list(CALLS))
        self.assertEqual(told[1::2], ANSWERED)

    def test_long_lists_and_deep_concepts_are_gone_through_by_loops(self):
        short = joined([THING, says(0, 5, 0), line([5, 2, 0], [0]), unsay(0)])
        deep = [says(0, *[5] * 29, 0), says(0, *[3] * 14, *[0] * 15), line([5] * 27 + [2, 0], [0]),
                says(0, *[6, 0] * 14, 0), unsay(0)]
        long = joined([THING] + deep * 11)
        self.assertEqual(calls_within_one_another(long), calls_within_one_another(short))


if __name__ == "__main__":
    unittest.main()
