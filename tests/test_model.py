"""The call model: the told model, and when there is none."""

import unittest

from tests.helper import BEGINS, MODEL, THING, last, line, says, sure, tie, unsay, untie
from tests.test_sure import CAN_NOT_BE, NOTHING_LEFT


class NoNamedThings(unittest.TestCase):
    def test_at_the_beginning(self):
        self.assertEqual(last(MODEL), [1, 0, 0])

    def test_the_lowest_that_can_be_there(self):
        self.assertEqual(last(line([2, 0], [2, 1]), MODEL), [1, 0, 0])
        self.assertEqual(last(line([0], [2, 1]), MODEL), [1, 2, 0])
        self.assertEqual(last(line([0], [3, 2, 3, 2, 0]), MODEL), [1, 9, 0])
        # The atom that is met first is worth least.
        self.assertEqual(last(line([0], [4, 2, 3, 2, 0]), MODEL), [1, 8, 0])
        self.assertEqual(last(line([0], [4, 2, 0, 2, 3]), MODEL), [1, 1, 0])

    def test_what_it_needs(self):
        # Kinds of (6, 0, 2, 0) and (2, 0): 1 is lowest, and needs 3, which needs itself.
        self.assertEqual(last(line([0], [6, 0, 2, 0]), MODEL), [2, 0, 1, 0, 1, 1, 1, 0, 1])
        # Of (2, 0) and (6, 0, 2, 0): 2 is lowest, and needs 3.
        self.assertEqual(last(line([2, 0], [6, 0, 2, 0]), line([0], [6, 0, 2, 0]), MODEL),
                         [2, 0, 1, 0, 1, 1, 1, 0, 1])

    def test_seven_that_does_not_hold_needs_one_too(self):
        # Kind 0 says that (7, 1, 2, 0) and (2, 0) don't hold, and needs itself.
        self.assertEqual(last(line([7, 1, 2, 0], [0]), MODEL), [1, 0, 1, 1, 0])
        self.assertEqual(last(line([0], [7, 1, 2, 0]), MODEL), [1, 0, 0])

    def test_on_and_on(self):
        needs = [line([2, 0], [6, 0, 2, 1]), line([2, 1], [6, 1, 2, 2])]
        # Kinds of (2, 0), (2, 1), (2, 2), (6, 0, 2, 1), (6, 1, 2, 2): 4 is lowest, and needs nothing.
        self.assertEqual(last(line([0], [4, 2, 0, 4, 2, 1, 2, 2]), *needs, MODEL), [1, 4, 0])
        # Kinds of (2, 0), (2, 1), (6, 0, 2, 1), (6, 1, 2, 2), (2, 2): 5 needs 10, which needs 21, which needs 10.
        self.assertEqual(last(line([0], [4, 2, 0, 2, 1]), *needs, MODEL),
                         [3, 1, 1, 0, 1, 2, 1, 1, 2, 5, 1, 0, 1])

    def test_lowest_is_not_always_there(self):
        # Kinds of (6, 0, 5, 2, 0), (2, 0), (6, 1, 2, 0): 5 and 7 alone are there.
        self.assertEqual(last(line([0], [3, 6, 0, 5, 2, 0, 6, 1, 2, 0]), MODEL), [2, 0, 2, 0, 0, 1, 1, 1, 2, 0, 0, 1, 1])


class NamedThings(unittest.TestCase):
    def test_nothing_is_said(self):
        self.assertEqual(last(THING, MODEL), [1, 0, 0])
        self.assertEqual(last(THING, THING, THING, MODEL), [3, 0, 0, 0, 0, 0, 0])

    def test_names(self):
        self.assertEqual(last(THING, THING, says(1, 2, 3), says(0, 2, 1), says(1, 2, 0), MODEL), [2, 2, 0, 9, 0])

    def test_each_has_the_lowest_kind_that_goes(self):
        self.assertEqual(last(THING, says(0, 4, 2, 0, 2, 1), MODEL), [1, 1, 0])
        self.assertEqual(last(THING, says(0, 4, 2, 1, 2, 0), MODEL), [1, 2, 0])
        self.assertEqual(last(THING, says(0, 4, 2, 1, 2, 0), says(0, 5, 2, 1), MODEL), [1, 1, 0])

    def test_atoms_of_axioms_are_ahead_of_those_of_what_is_said(self):
        self.assertEqual(last(THING, says(0, 4, 2, 0, 2, 1), line([2, 1], [0]), MODEL), [1, 2, 0])
        self.assertEqual(last(THING, line([2, 2], [2, 1]), says(0, 4, 2, 0, 2, 1), MODEL), [1, 2, 0])

    def test_atoms_in_the_order_in_which_it_is_said(self):
        # What is said of thing 1 is said first.
        self.assertEqual(last(THING, THING, says(1, 4, 2, 1, 0), says(0, 4, 2, 0, 2, 1), MODEL), [2, 2, 0, 0, 0])

    def test_what_is_asked_brings_no_atoms(self):
        self.assertEqual(last(THING, sure(0, 2, 1), says(0, 4, 2, 0, 2, 1), MODEL), [1, 1, 0])

    def test_the_first_thing_has_the_lower_kind_first(self):
        # Kinds of (7, 0, 2, 1), (2, 1), (2, 0): thing 0 has 1, not 4, though thing 1 must have 2, not 0, then.
        self.assertEqual(last(THING, THING, says(0, 4, 7, 0, 2, 1, 2, 0), tie(0, 0, 1), MODEL),
                         [3, 0, 1, 0, 1, 2, 1, 0, 2, 0, 1, 0, 2])
        # The same with the two things the other way round: now thing 0 has 0, and thing 1 must have 4.
        self.assertEqual(last(THING, THING, says(1, 4, 7, 0, 2, 1, 2, 0), tie(0, 1, 0), MODEL),
                         [3, 0, 1, 0, 2, 1, 2, 0, 0, 0, 2, 0, 1, 0, 2])

    def test_a_tie_changes_the_kind_of_an_earlier_thing(self):
        # Of (6, 0, 2, 0) and (2, 0): thing 1 is said to have the name, so thing 0 comes to one by role 0.
        self.assertEqual(last(THING, THING, says(1, 4, 6, 0, 2, 0, 2, 0), says(1, 2, 0), tie(0, 0, 1), MODEL),
                         [3, 0, 2, 0, 1, 0, 2, 1, 0, 1, 0])

    def test_none_if_it_can_not_all_be_so(self):
        for calls in CAN_NOT_BE + NOTHING_LEFT:
            with self.subTest(calls=calls):
                self.assertEqual(last(*calls, MODEL), [-6])


class WhereOneComes(unittest.TestCase):
    def test_ties_in_their_order_ahead_of_what_atoms_need(self):
        begun = [THING, THING, says(0, 6, 0, 2, 0), tie(1, 0, 1), tie(0, 0, 1), tie(1, 1, 1), tie(1, 0, 0)]
        self.assertEqual(last(*begun, MODEL), [3, 0, 4, 1, 1, 0, 1, 1, 0, 0, 2, 0, 1, 1, 1, 1, 0])

    def test_a_tie_does_not_stand_for_what_an_atom_needs(self):
        begun = [THING, THING, says(0, 6, 0, 2, 0), says(1, 2, 0), tie(0, 0, 1)]
        self.assertEqual(last(*begun, MODEL), [3, 0, 2, 0, 1, 0, 2, 1, 0, 1, 0])

    def test_to_an_unnamed_thing_though_a_named_one_has_the_kind(self):
        # Kinds of (2, 0), (7, 0, 2, 1), (2, 1): thing 1 has 0, and so has the unnamed one.
        begun = [line([2, 0], [7, 0, 2, 1]), THING, THING, says(0, 2, 0)]
        self.assertEqual(last(*begun, MODEL), [3, 1, 0, 0, 1, 0, 2, 0, 1, 0, 2])
        self.assertEqual(last(*begun, tie(0, 0, 1), MODEL), [3, 1, 1, 0, 1, 2, 1, 0, 2, 0, 1, 0, 2])

    def test_the_same_tie_is_told_once(self):
        self.assertEqual(last(THING, THING, *[tie(0, 0, 1), tie(1, 0, 1)] * 2, tie(0, 0, 0), MODEL),
                         [2, 0, 3, 0, 1, 1, 1, 0, 0, 0, 0])

    def test_two_atoms_that_lead_to_the_same_thing(self):
        # By the same role it is told once, by another one again.
        self.assertEqual(last(THING, says(0, 3, 6, 0, 2, 0, 6, 0, 4, 2, 0, 2, 1), MODEL), [2, 0, 1, 0, 1, 1, 0])
        self.assertEqual(last(THING, says(0, 3, 6, 0, 2, 0, 6, 1, 2, 0), MODEL), [2, 0, 2, 0, 1, 1, 1, 1, 0])

    def test_told_once_where_it_first_is(self):
        # By role 0 to name 1, by role 1 to name 0, and by role 0 to either, which is the first thing again.
        begun = [THING, says(0, 3, 6, 0, 2, 1, 3, 6, 1, 2, 0, 6, 0, 4, 2, 1, 2, 0)]
        self.assertEqual(last(*begun, MODEL), [3, 0, 2, 0, 1, 1, 2, 2, 0, 1, 0])

    def test_each_atom_its_own_thing(self):
        self.assertEqual(last(THING, says(0, 3, 6, 0, 2, 0, 6, 0, 2, 1), MODEL), [3, 0, 2, 0, 1, 0, 2, 1, 0, 2, 0])
        self.assertEqual(last(THING, says(0, 3, 6, 0, 2, 0, 6, 0, 0), MODEL), [3, 0, 2, 0, 1, 0, 2, 1, 0, 0, 0])

    def test_in_the_order_of_atoms_not_of_roles(self):
        self.assertEqual(last(THING, says(0, 3, 6, 1, 2, 1, 6, 0, 2, 0), MODEL), [3, 0, 2, 1, 1, 0, 2, 2, 0, 1, 0])

    def test_six_and_seven_within_one_another(self):
        # Kinds of (6, 0, 7, 1, 2, 0), (7, 1, 2, 0), (2, 0): 1 needs 2 by role 0, and 0 by role 1, which needs itself.
        self.assertEqual(last(THING, says(0, 6, 0, 7, 1, 2, 0), MODEL), [3, 0, 2, 0, 1, 1, 2, 0, 0, 0, 1, 1, 2])
        # Kinds of (7, 0, 6, 0, 2, 0), (6, 0, 2, 0), (2, 0): 0 needs itself, 1 needs nothing.
        self.assertEqual(last(THING, says(0, 7, 0, 6, 0, 2, 0), MODEL), [1, 0, 0])
        # Not so: it needs one that doesn't come to a thing with the name, which is 0, and needs itself.
        self.assertEqual(last(THING, says(0, 5, 7, 0, 6, 0, 2, 0), MODEL), [2, 0, 1, 0, 1, 0, 1, 0, 1])
        # 3 comes to a thing with the name and only to such as come on to one: 6, which comes on to 0, then to 4.
        self.assertEqual(last(THING, says(0, 3, 7, 0, 6, 0, 2, 0, 6, 0, 2, 0), MODEL),
                         [4, 0, 1, 0, 1, 1, 2, 0, 2, 0, 3, 0, 1, 0, 2, 1, 1, 0, 2])

    def test_seven_keeps_what_it_leads_to(self):
        # All things by role 0 have name 1, so the one with name 0 has it too; by role 1 it need not.
        begun = [THING, says(0, 3, 7, 0, 2, 1, 6, 0, 2, 0)]
        self.assertEqual(last(*begun, MODEL), [3, 0, 1, 0, 1, 3, 1, 0, 2, 0, 1, 0, 2])


class InTheOrderInWhichTheyAreNeeded(unittest.TestCase):
    AXIOMS = [line([2, 0], [6, 0, 2, 1]), line([2, 1], [6, 1, 2, 0])]

    def test_the_needs_of_thing_0_first(self):
        self.assertEqual(last(*self.AXIOMS, THING, THING, says(1, 2, 0), says(0, 2, 1), MODEL),
                         [4, 2, 1, 1, 2, 1, 1, 0, 3, 1, 1, 0, 3, 2, 1, 1, 2])
        self.assertEqual(last(*self.AXIOMS, THING, THING, says(0, 2, 0), says(1, 2, 1), MODEL),
                         [4, 1, 1, 0, 2, 2, 1, 1, 3, 2, 1, 1, 3, 1, 1, 0, 2])

    def test_one_for_each_kind(self):
        self.assertEqual(last(*self.AXIOMS, THING, THING, THING, *[says(thing, 2, 0) for thing in (0, 1, 2)], MODEL),
                         [5, 1, 1, 0, 3, 1, 1, 0, 3, 1, 1, 0, 3, 2, 1, 1, 4, 1, 1, 0, 3])

    def test_things_in_a_row(self):
        # Each comes to the next: names 0, 1, 2.
        begun = [line([2, 0], [6, 0, 2, 1]), line([2, 1], [6, 0, 2, 2]), THING, THING, says(1, 2, 0)]
        self.assertEqual(last(*begun, MODEL), [4, 0, 0, 1, 1, 0, 2, 2, 1, 0, 3, 4, 0])

    def test_all_that_one_needs_ahead_of_what_these_need(self):
        # Thing 0 needs one with name 0, which needs one with name 1, and itself needs one with neither.
        begun = [line([2, 0], [6, 0, 2, 1]), THING, says(0, 3, 6, 1, 2, 0, 6, 1, 5, 2, 0)]
        # Kinds of (2, 0), (6, 0, 2, 1), (2, 1), (6, 1, 2, 0), (6, 1, 5, 2, 0): 24 needs 3 and 0; 3 needs 4.
        self.assertEqual(last(*begun, MODEL), [4, 0, 2, 1, 1, 1, 2, 1, 1, 0, 3, 0, 0, 2, 0])

    def test_from_unnamed_things_one_comes_to_unnamed_ones_alone(self):
        # A tie is of its thing, not of its kind.
        begun = [line([0], [6, 0, 2, 0]), THING, THING, says(0, 2, 0), says(1, 2, 0), tie(1, 0, 1)]
        self.assertEqual(last(*begun, MODEL), [3, 1, 2, 1, 1, 0, 2, 1, 1, 0, 2, 1, 1, 0, 2])


class After(unittest.TestCase):
    def test_unsay(self):
        begun = [THING, says(0, 4, 2, 1, 0), says(0, 4, 2, 0, 2, 1)]
        self.assertEqual(last(*begun, MODEL), [1, 2, 0])
        self.assertEqual(last(*begun, unsay(0), MODEL), [1, 1, 0])
        self.assertEqual(last(*begun, unsay(0), says(0, 2, 1), MODEL), [1, 2, 0])
        self.assertEqual(last(*begun, unsay(1), MODEL), [1, 0, 0])

    def test_untie(self):
        begun = [THING, THING, says(0, 7, 0, 2, 0), says(1, 7, 0, 2, 0), tie(0, 0, 1), tie(1, 0, 1), tie(0, 0, 1)]
        self.assertEqual(last(*begun, MODEL), [2, 0, 2, 0, 1, 1, 1, 1, 0])
        self.assertEqual(last(*begun, untie(0), MODEL), [2, 0, 2, 1, 1, 0, 1, 1, 0])
        self.assertEqual(last(*begun, untie(0), untie(1), MODEL), [2, 0, 1, 1, 1, 0, 0])

    def test_begins(self):
        begun = [line([0], [6, 0, 2, 0]), THING, THING, says(1, 2, 1), tie(1, 0, 0)]
        self.assertEqual(last(*begun, BEGINS, MODEL), [1, 0, 0])
        self.assertEqual(last(*begun, BEGINS, THING, says(0, 4, 2, 3, 2, 0), MODEL), [1, 8, 0])


if __name__ == "__main__":
    unittest.main()
