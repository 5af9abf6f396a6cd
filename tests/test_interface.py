"""What the interface says of answers itself, whatever is asked."""

import builtins
import contextlib
import io
import sys
import unittest
from unittest import mock

from tests.helper import (
    BEGINS, HIGHEST, MODEL, NAMES, THING, WHOLE, apart, joined, line, says, sure, tie, unsay, untie, who)
from thingssaid.house import answers

CALLS = joined([
    THING, line([2, 0], [6, 0, 2, 1]), says(0, 5, 2, 0), says(1, 0), tie(0, 0, 0), tie(2, 0, 0), WHOLE, NAMES,
    unsay(0), unsay(0), line([8]), says(0, 2, 0), sure(0, 6, 0, 0), sure(1, 0), who(2, 0), MODEL, untie(0), untie(0),
    BEGINS, THING, THING, says(1, 7, 1, 2, 3), says(HIGHEST, 2, 3), tie(1, 1, 0), unsay(HIGHEST), who(2, 3), MODEL,
    says(0, 5, 2, 3), WHOLE, NAMES, MODEL, unsay(0),
])
ANSWERED = [
    [0], [0], [0], [-2], [0], [-1], [1], [1, 0, 1, 1, 1],
    [0], [-2], [-1], [0], [2], [-2], [1, 0], [2, 1, 2, 0, 0, 0, 1, 2, 0], [0], [-2],
    [0], [0], [1], [0], [-2], [0], [-2], [1, 0], [3, 8, 1, 1, 2, 0, 1, 1, 0, 0, 1, 1, 2],
    [1], [0], [-6], [-6], [1],
]


class Watched(list):
    """A list that cannot be changed, not for a while either."""

    def refuse(self, *given, **named):
        raise AssertionError("what is handed in was changed")

    append = extend = insert = pop = remove = clear = sort = reverse = refuse
    __setitem__ = __delitem__ = __iadd__ = __imul__ = refuse


def calls_within_one_another(calls):
    """How deep the calls of Python's functions go while answers is at work."""
    depths = [0]

    def watch(frame, event, given):
        if event == "call":
            depths.append(depths[-1] + 1)
        elif event == "return":
            depths.append(depths[-1] - 1)

    before = sys.getprofile()
    sys.setprofile(watch)
    try:
        answers(calls)
    finally:
        sys.setprofile(before)
    return max(depths)


class Answers(unittest.TestCase):
    def test_how_many_then_these(self):
        told = [[len(answer)] + answer for answer in ANSWERED]
        self.assertEqual(answers(list(CALLS)), joined(told))

    def test_a_list_of_whole_numbers(self):
        told = answers(list(CALLS))
        self.assertIs(type(told), list)
        self.assertEqual({type(number) for number in told}, {int})

    def test_what_is_handed_in_is_as_it_was(self):
        calls = list(CALLS)
        first = answers(calls)
        self.assertEqual(calls, CALLS)
        self.assertEqual(answers(calls), first)
        self.assertEqual(calls, CALLS)

    def test_what_is_handed_in_is_not_changed_for_a_while(self):
        self.assertEqual(answers(Watched(CALLS)), answers(list(CALLS)))

    def test_nothing_is_kept(self):
        first = answers(list(CALLS))
        full = [THING] * 3 + [line([2, 0], [2, 1])] * 5 + [says(2, 2, 2)] * 6 + [tie(0, 0, 1)] * 6
        answers(joined(full))
        self.assertEqual(answers(list(CALLS)), first)
        self.assertEqual(answers([2]), [1, 0])
        self.assertEqual(answers([2]), [1, 0])
        self.assertEqual(answers([5, 0]), [1, -2])
        self.assertEqual(answers([3, 0, 1, 0]), [1, -2])
        self.assertEqual(answers([6, 0]), [1, -2])
        self.assertEqual(answers([1, 2, 0, 1, 7]), [1, 0, 1, 0])
        self.assertEqual(answers([7]), [1, 1])
        self.assertEqual(answers([11]), [3, 1, 0, 0])

    def test_asked_twice_in_one_list(self):
        asked = [WHOLE, sure(0, 6, 1, 0), who(7, 1, 2, 3), MODEL]
        told = apart(answers(joined([THING, says(0, 7, 1, 2, 3), tie(1, 0, 0)] + asked + asked)))
        self.assertEqual(told[3:7], [[1], [2], [1, 0], [1, 8, 1, 1, 0]])
        self.assertEqual(told[7:], told[3:7])

    def test_what_is_given_back_is_not_kept(self):
        first = answers(list(CALLS))
        whole = list(first)
        first.clear()
        self.assertEqual(answers(list(CALLS)), whole)

    def test_nothing_is_printed(self):
        out = io.StringIO()
        with contextlib.redirect_stdout(out), contextlib.redirect_stderr(out):
            answers(list(CALLS))
        self.assertEqual(out.getvalue(), "")

    def test_nothing_is_read_or_imported(self):
        refused = AssertionError("answers reads or imports")
        with mock.patch.object(builtins, "__import__", side_effect=refused), \
                mock.patch.object(builtins, "open", side_effect=refused), \
                mock.patch.object(builtins, "input", side_effect=refused):
            told = answers(list(CALLS))
        self.assertEqual(apart(told), ANSWERED)

    def test_long_lists_and_deep_concepts_are_gone_through_by_loops(self):
        short = joined([THING, says(0, 5, 0), line([5, 2, 0], [0]), unsay(0), sure(0, 6, 0, 2, 0), who(5, 0), MODEL])
        deep = [says(0, *[5] * 28, 0), says(0, *[3] * 14, *[0] * 15), line([5] * 27 + [2, 0], [0]),
                says(0, *[6, 0] * 14, 0), unsay(0)]
        asked = [sure(0, *[5] * 28, 2, 1), sure(0, *[3] * 14, *[0] * 15), sure(0, *[6, 0] * 3, 2, 1),
                 who(*[4] * 14, *[1] * 15), MODEL, WHOLE]
        long = joined([THING] + deep * 10 + [unsay(0)] + asked)
        self.assertEqual([answer[0] for answer in apart(answers(long))][-6:], [1, 2, 1, 0, 1, 1])
        self.assertEqual(calls_within_one_another(long), calls_within_one_another(short))


if __name__ == "__main__":
    unittest.main()
