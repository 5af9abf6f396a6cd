"""The calls untie, whole, is, who and names: what they answer and what they refuse."""

import unittest

from tests.helper import (
    BEGINS, HIGHEST, MODEL, NAMES, THING, WHOLE, ask, ask_each, last, line, says, sure, tie, unsay, untie, who)
from tests.test_concepts import CONCEPTS, NO_CONCEPTS
from thingssaid.house import answers

# Glad is name 0, sees is role 0; Ann is thing 0, Ben 1 and Carl 2.
GLAD = [2, 0]
SEES_A_SAD_ONE = [6, 0, 5, 2, 0]
OPENING = [THING, THING, THING, says(0, *GLAD), says(2, 5, *GLAD), tie(0, 0, 1), tie(0, 1, 2)]

FIVE_ATOMS = line([6, 0, 2, 0], [7, 1, 3, 2, 1, 2, 2])

# Each of them leaves no kind of things at all.
NOTHING_LEFT = (
    [line([0], [1])],
    [line([0], [2, 0]), line([2, 0], [1])],
    [line([2, 0], [5, 2, 0]), line([5, 2, 0], [2, 0])],
    [line([0], [6, 0, 1])],
    [line([0], [6, 0, 2, 0]), line([2, 0], [1])],
    [line([0], [5, 7, 1, 2, 0]), line([5, 2, 0], [1])],
    [line([0], [6, 1, 2, 0]), line([0], [7, 1, 5, 2, 0])],
    [line([0], [6, 1, 0]), line([0], [7, 1, 5, 0])],
    # What is left of the first is borne out by nothing, then what that bore out, and so on.
    [line([0], [6, 0, 2, 0]), line([2, 0], [6, 0, 2, 1]), line([2, 1], [1])],
)

# What's said of the named things can't be so, though there can be things.
CAN_NOT_BE = (
    [THING, says(0, 1)],
    [THING, says(0, 2, 0), says(0, 5, 2, 0)],
    [THING, THING, says(1, 3, 2, 0, 5, 2, 0)],
    [line([2, 0], [2, 1]), THING, says(0, 2, 0), says(0, 5, 2, 1)],
    [line([2, 0], [6, 0, 2, 1]), line([2, 1], [1]), THING, says(0, 2, 0)],
    [THING, says(0, 6, 0, 2, 0), says(0, 7, 0, 5, 2, 0)],
    [THING, THING, says(0, 7, 0, 2, 0), says(1, 5, 2, 0), tie(0, 0, 1)],
    [THING, THING, says(0, 5, 6, 1, 2, 0), says(1, 2, 0), tie(1, 0, 1)],
    [THING, says(0, 7, 0, 2, 0), says(0, 5, 2, 0), tie(0, 0, 0)],
    [THING, THING, THING, says(0, 7, 0, 7, 0, 2, 0), says(2, 5, 2, 0), tie(0, 0, 1), tie(0, 1, 2)],
    [THING, THING, THING, says(2, 7, 0, 7, 0, 2, 0), says(0, 5, 2, 0), tie(0, 1, 0), tie(0, 2, 1)],
    [line([3, *GLAD, *SEES_A_SAD_ONE], [1])] + OPENING,
)


class Opening(unittest.TestCase):
    def test_nobody_knows_whether_ben_is_glad(self):
        self.assertEqual(last(*OPENING, sure(0, *GLAD)), [2])
        self.assertEqual(last(*OPENING, sure(1, *GLAD)), [1])
        self.assertEqual(last(*OPENING, sure(2, *GLAD)), [0])
        self.assertEqual(last(*OPENING, who(*GLAD)), [1, 0])
        self.assertEqual(last(*OPENING, who(5, *GLAD)), [1, 2])

    def test_of_none_of_them_it_is_sure(self):
        told = ask(*OPENING, *[sure(thing, 3, *GLAD, *SEES_A_SAD_ONE) for thing in (0, 1, 2)])
        self.assertEqual(told[len(OPENING):], [1, 1, 0])
        self.assertEqual(last(*OPENING, who(3, *GLAD, *SEES_A_SAD_ONE)), [0])

    def test_somebody_glad_surely_sees_somebody_who_is_not(self):
        self.assertEqual(last(*OPENING, WHOLE), [1])
        self.assertEqual(last(*OPENING, line([3, *GLAD, *SEES_A_SAD_ONE], [1]), WHOLE), [0])
        # By role 1 Ann comes to herself and to Ben.
        to_both = [tie(1, 0, 0), tie(1, 0, 1)]
        self.assertEqual(last(*OPENING, *to_both, sure(0, 6, 1, 3, *GLAD, *SEES_A_SAD_ONE)), [2])
        self.assertEqual(last(*OPENING, *to_both, who(6, 1, 3, *GLAD, *SEES_A_SAD_ONE)), [1, 0])
        self.assertEqual(last(*OPENING, to_both[0], sure(0, 6, 1, 3, *GLAD, *SEES_A_SAD_ONE)), [1])

    def test_names_and_model(self):
        self.assertEqual(last(*OPENING, NAMES), [3, 2, 1, 1, 1, 1, 1, 1, 1, 0, 1, 1, 1])
        self.assertEqual(last(*OPENING, MODEL), [3, 1, 1, 0, 1, 0, 1, 0, 2, 0, 0])

    def test_told_in_numbers(self):
        calls = [2, 2, 2, 3, 0, 2, 2, 0, 3, 2, 3, 5, 2, 0, 4, 0, 0, 1, 4, 0, 1, 2, 7, 8, 1, 2, 2, 0, 9, 2, 2, 0, 10,
                 11, 6, 0, 11]
        self.assertEqual(answers(calls), [
            1, 0, 1, 1, 1, 2, 1, 0, 1, 1, 1, 0, 1, 1, 1, 1, 1, 1, 2, 1, 0, 13, 3, 2, 1, 1, 1, 1, 1, 1, 1, 0, 1, 1, 1,
            11, 3, 1, 1, 0, 1, 0, 1, 0, 2, 0, 0, 1, 1, 9, 3, 1, 0, 0, 1, 0, 2, 0, 0])


class Untie(unittest.TestCase):
    def test_how_many_there_are_then(self):
        told = ask(THING, tie(0, 0, 0), tie(1, 0, 0), tie(0, 0, 0), untie(1), untie(2), untie(0), untie(1), untie(0),
                   untie(0), tie(1, 0, 0), untie(0))
        self.assertEqual(told, [0, 0, 1, 2, 2, -2, 1, -2, 0, -2, 0, 0])

    def test_none_such(self):
        self.assertEqual(ask(untie(0), untie(HIGHEST)), [-2, -2])
        self.assertEqual(ask(THING, tie(0, 0, 0), untie(1), untie(HIGHEST), untie(0)), [0, 0, -2, -2, 0])

    def test_it_does_not_count_axioms_things_or_what_is_said(self):
        self.assertEqual(ask(line([0], [0]), THING, says(0, 0), untie(0), unsay(0)), [0, 0, 0, -2, 0])
        self.assertEqual(ask(THING, tie(0, 0, 0), says(0, 0), untie(0), unsay(0)), [0, 0, 0, 0, 0])

    def test_there_is_room_again(self):
        told = ask(THING, *[tie(0, 0, 0)] * 7, untie(5), tie(1, 0, 0), tie(1, 0, 0), untie(0), tie(1, 0, 0))
        self.assertEqual(told, [0, 0, 1, 2, 3, 4, 5, -7, 5, 5, -7, 5, 5])

    def test_what_is_behind_moves_up(self):
        begun = [THING, THING, tie(0, 0, 1), tie(1, 0, 1), tie(1, 1, 0)]
        self.assertEqual(last(*begun, MODEL), [2, 0, 2, 0, 1, 1, 1, 0, 1, 1, 0])
        self.assertEqual(last(*begun, untie(0), MODEL), [2, 0, 1, 1, 1, 0, 1, 1, 0])
        self.assertEqual(last(*begun, untie(1), MODEL), [2, 0, 1, 0, 1, 0, 1, 1, 0])
        self.assertEqual(last(*begun, untie(2), MODEL), [2, 0, 2, 0, 1, 1, 1, 0, 0])
        self.assertEqual(last(*begun, untie(0), untie(0), MODEL), [2, 0, 0, 0, 1, 1, 0])
        self.assertEqual(last(*begun, untie(0), untie(1), MODEL), [2, 0, 1, 1, 1, 0, 0])

    def test_of_two_alike_one_stays(self):
        begun = [THING, THING, says(0, 7, 0, 2, 0), tie(0, 0, 1), tie(0, 0, 1)]
        self.assertEqual(last(*begun, untie(0), sure(1, 2, 0)), [2])
        self.assertEqual(last(*begun, untie(1), untie(0), sure(1, 2, 0)), [1])


class WholeOrNot(unittest.TestCase):
    def test_at_the_beginning(self):
        self.assertEqual(ask(WHOLE), [1])
        self.assertEqual(ask(THING, WHOLE), [0, 1])

    def test_no_named_things_and_nothing_left(self):
        for axioms in NOTHING_LEFT:
            with self.subTest(axioms=axioms):
                self.assertEqual(last(*axioms, WHOLE), [0])
                self.assertEqual(last(*axioms, THING, WHOLE), [0])

    def test_no_named_things_and_one_kind_left(self):
        for axioms in (
                [], [line([0], [0])], [line([0], [2, 0])], [line([2, 0], [1])], [line([0], [6, 0, 0])],
                [line([0], [7, 1, 1])], [line([0], [6, 0, 2, 0]), line([0], [2, 0])],
                [line([0], [3, 5, 2, 0, 6, 1, 5, 2, 0])]):
            with self.subTest(axioms=axioms):
                self.assertEqual(last(*axioms, WHOLE), [1])
                self.assertEqual(last(*axioms, THING, WHOLE), [1])

    def test_named_things_that_can_not_be_as_said(self):
        for calls in CAN_NOT_BE:
            with self.subTest(calls=calls):
                self.assertEqual(last(*calls, WHOLE), [0])

    def test_named_things_that_can_be_as_said(self):
        for calls in (
                [THING, THING, says(0, 2, 0), says(1, 5, 2, 0)],
                [THING, THING, says(0, 7, 0, 2, 0), says(1, 5, 2, 0), tie(1, 0, 1)],
                [THING, THING, says(0, 7, 0, 2, 0), says(1, 5, 2, 0), tie(0, 1, 0)],
                [THING, THING, THING, says(0, 7, 0, 7, 0, 2, 0), says(2, 5, 2, 0), tie(0, 0, 1), tie(0, 0, 2)],
                [line([2, 0], [1]), THING, says(0, 7, 0, 2, 0)],
                [line([2, 0], [6, 0, 2, 0]), THING, says(0, 2, 0)]):
            with self.subTest(calls=calls):
                self.assertEqual(last(*calls, WHOLE), [1])

    def test_a_thing_that_has_gone_wrong_spoils_the_others(self):
        self.assertEqual(ask(THING, THING, THING, says(0, 2, 0), says(2, 1), WHOLE), [0, 1, 2, 0, 1, 0])
        self.assertEqual(ask(THING, THING, THING, says(0, 1), says(2, 2, 0), WHOLE), [0, 1, 2, 0, 1, 0])

    def test_after_unsay_untie_and_begins(self):
        said = [THING, says(0, 2, 0), says(0, 5, 2, 0), WHOLE]
        self.assertEqual(ask(*said, unsay(0), WHOLE), [0, 0, 1, 0, 1, 1])
        self.assertEqual(ask(*said, unsay(1), WHOLE, says(0, 5, 2, 0), WHOLE), [0, 0, 1, 0, 1, 1, 1, 0])
        tied = [THING, THING, says(0, 7, 0, 2, 0), says(1, 5, 2, 0), tie(0, 0, 1), WHOLE]
        self.assertEqual(ask(*tied, untie(0), WHOLE, tie(0, 0, 1), WHOLE), [0, 1, 0, 1, 0, 0, 0, 1, 0, 0])
        self.assertEqual(ask(line([0], [1]), WHOLE, BEGINS, WHOLE), [0, 0, 0, 1])
        self.assertEqual(ask(*tied, BEGINS, WHOLE, THING, WHOLE), [0, 1, 0, 1, 0, 0, 0, 1, 0, 1])


class HowSure(unittest.TestCase):
    def test_of_a_thing_of_which_nothing_is_said(self):
        for concept, number in (
                ([0], 2), ([1], 0), ([2, 3], 1), ([4, 2, 3, 5, 2, 3], 2), ([3, 2, 3, 5, 2, 3], 0), ([5, 2, 0], 1),
                ([6, 0, 0], 1), ([7, 0, 0], 2), ([6, 1, 1], 0), ([7, 1, 1], 1), ([4, 6, 0, 2, 0, 7, 0, 5, 2, 0], 2),
                ([3, 6, 0, 2, 0, 7, 0, 5, 2, 0], 0), ([3, 6, 0, 2, 0, 7, 1, 5, 2, 0], 1), ([3, 6, 0, 0, 7, 0, 1], 0),
                ([4, 5, 6, 0, 3, 2, 0, 2, 1, 6, 0, 2, 0], 2), ([5, 5, 5, 0], 0), ([6, 0, 7, 1, 2, 2], 1)):
            with self.subTest(concept=concept):
                self.assertEqual(ask(THING, sure(0, *concept)), [0, number])
                self.assertEqual(ask(THING, sure(0, 5, *concept)), [0, 2 - number])

    def test_by_an_axiom(self):
        begun = [line([2, 0], [2, 1]), THING, THING, says(0, 2, 0), says(1, 5, 2, 1)]
        told = ask(*begun, *[sure(thing, 2, name) for thing in (0, 1) for name in (0, 1, 2)])
        self.assertEqual(told[5:], [2, 2, 1, 0, 0, 1])

    def test_by_axioms_that_leave_nothing_to_bear_it_out(self):
        begun = [line([2, 0], [6, 0, 2, 1]), line([2, 1], [6, 0, 2, 2]), line([2, 2], [1]), THING]
        told = ask(*begun, sure(0, 2, 0), sure(0, 2, 1), sure(0, 2, 2), sure(0, 5, 2, 0), sure(0, 6, 0, 2, 1))
        self.assertEqual(told[4:], [0, 0, 0, 2, 0])

    def test_by_ties(self):
        begun = [line([2, 0], [7, 0, 2, 1]), THING, THING, says(0, 2, 0), tie(0, 0, 1)]
        told = ask(*begun, sure(1, 2, 1), sure(0, 2, 1), sure(0, 6, 0, 2, 1), sure(1, 6, 0, 2, 1), sure(1, 2, 0),
                   sure(0, 6, 0, 5, 2, 1), sure(0, 6, 0, 6, 0, 0))
        self.assertEqual(told[5:], [2, 1, 2, 1, 1, 0, 1])

    def test_a_tie_is_of_its_role_and_leads_one_way(self):
        begun = [THING, THING, says(0, 2, 0), says(1, 2, 1), tie(1, 0, 1)]
        told = ask(*begun, sure(0, 6, 1, 2, 1), sure(0, 6, 0, 2, 1), sure(1, 6, 1, 2, 0), sure(0, 6, 1, 0),
                   sure(1, 6, 1, 0), sure(0, 7, 1, 1))
        self.assertEqual(told[5:], [2, 1, 1, 2, 1, 0])

    def test_back_along_a_tie(self):
        begun = [THING, THING, says(1, 5, 2, 0), tie(0, 0, 1)]
        told = ask(*begun, sure(0, 7, 0, 2, 0), sure(0, 6, 0, 5, 2, 0), sure(0, 7, 1, 2, 0))
        self.assertEqual(told[4:], [0, 2, 1])

    def test_a_tie_to_itself(self):
        begun = [THING, tie(0, 0, 0), says(0, 7, 0, 2, 0)]
        told = ask(*begun, sure(0, 2, 0), sure(0, 6, 0, 2, 0), sure(0, 6, 0, 6, 0, 6, 0, 2, 0), sure(0, 7, 0, 1))
        self.assertEqual(told[3:], [2, 2, 2, 0])

    def test_what_is_said_of_one_is_not_said_of_others(self):
        told = ask(THING, THING, THING, says(1, 2, 2), sure(0, 2, 2), sure(1, 2, 2), sure(2, 2, 2))
        self.assertEqual(told[4:], [1, 2, 1])

    def test_five_atoms_with_it(self):
        begun = [line([2, 0], [2, 1]), THING, says(0, 3, 2, 0, 2, 2)]
        told = ask(*begun, sure(0, 6, 0, 6, 0, 0), sure(0, 6, 0, 6, 0, 2, 3), sure(0, 4, 2, 3, 7, 0, 2, 1))
        self.assertEqual(told[3:], [1, -7, 1])

    def test_it_leaves_no_atoms_behind(self):
        told = ask(THING, sure(0, *[6, 0] * 5, 0), sure(0, *[7, 0] * 5, 0), FIVE_ATOMS, sure(0, 6, 1, 0),
                   says(0, 2, 3))
        self.assertEqual(told, [0, 1, 2, 0, -7, -7])

    def test_refusals(self):
        for row in NO_CONCEPTS:
            with self.subTest(row=row):
                self.assertEqual(ask(THING, sure(0, *row)), [0, -1])
        self.assertEqual(ask(sure(0, 0), THING, sure(1, 0), sure(HIGHEST, 0), sure(0, 0)), [-2, 0, -2, -2, 2])
        self.assertEqual(ask(THING, FIVE_ATOMS, sure(0, 2, 3), sure(0, 2, 2)), [0, 0, -7, 1])
        self.assertEqual(ask(THING, sure(0, *[6, 1] * 6, 0), sure(0, *[6, 1] * 5, 0)), [0, -7, 1])
        for calls in CAN_NOT_BE + tuple(axioms + [THING] for axioms in NOTHING_LEFT):
            with self.subTest(calls=calls):
                self.assertEqual(last(*calls, sure(0, 0)), [-6])
                self.assertEqual(last(*calls, sure(0, 2, 3)), [-6])

    def test_the_refusal_told_first(self):
        impossible = [FIVE_ATOMS, line([0], [1]), THING]
        for row, thing, number in (
                ([8], 5, -1), ([3, 2, 3], 0, -1), ([2, 3, 0], HIGHEST, -1), ([], 1, -1), ([2, 3], 1, -2),
                ([2, 3], HIGHEST, -2), ([2, 0], 1, -2), ([2, 3], 0, -7), ([2, 0], 0, -6), ([1], 0, -6)):
            with self.subTest(row=row, thing=thing):
                self.assertEqual(last(*impossible, sure(thing, *row)), [number])


class Who(unittest.TestCase):
    def test_those_that_surely_have_it(self):
        begun = [line([2, 0], [2, 1]), THING, THING, THING, says(2, 2, 0), says(0, 2, 1), says(1, 4, 2, 0, 2, 2)]
        for concept, answer in (
                ([2, 1], [2, 0, 2]), ([2, 0], [1, 2]), ([2, 2], [0]), ([4, 2, 1, 2, 2], [3, 0, 1, 2]), ([1], [0]),
                ([0], [3, 0, 1, 2]), ([5, 2, 1], [0]), ([2, 3], [0]), ([7, 1, 0], [3, 0, 1, 2]), ([6, 0, 0], [0])):
            with self.subTest(concept=concept):
                self.assertEqual(last(*begun, who(*concept)), answer)

    def test_no_named_things(self):
        for row in CONCEPTS[:11]:
            with self.subTest(row=row):
                self.assertEqual(ask_each(who(*row)), [[0]])
        self.assertEqual(last(line([0], [2, 0]), who(2, 0)), [0])

    def test_by_ties(self):
        begun = [THING, THING, THING, says(1, 7, 0, 2, 3), tie(0, 1, 2), tie(0, 1, 0), tie(1, 1, 1)]
        self.assertEqual(last(*begun, who(2, 3)), [2, 0, 2])
        self.assertEqual(last(*begun, untie(0), who(2, 3)), [1, 0])
        self.assertEqual(last(*begun, unsay(0), who(2, 3)), [0])
        self.assertEqual(last(*begun, who(6, 0, 2, 3)), [1, 1])

    def test_refusals(self):
        for row in NO_CONCEPTS:
            with self.subTest(row=row):
                self.assertEqual(ask_each(who(*row)), [[-1]])
        self.assertEqual(ask_each(THING, FIVE_ATOMS, who(2, 3), who(2, 2)), [[0], [0], [-7], [0]])
        self.assertEqual(ask_each(who(*[7, 1] * 6, 0), who(*[7, 1] * 5, 0)), [[-7], [0]])
        for calls in CAN_NOT_BE + NOTHING_LEFT:
            with self.subTest(calls=calls):
                self.assertEqual(last(*calls, who(0)), [-6])
                self.assertEqual(last(*calls, who(2, 3)), [-6])

    def test_the_refusal_told_first(self):
        for begun in ([FIVE_ATOMS, line([0], [1])], [FIVE_ATOMS, THING, says(0, 1)]):
            for row, number in (([8], -1), ([3, 2, 3], -1), ([2, 3, 2, 3], -1), ([2, 3], -7), ([2, 0], -6), ([0], -6)):
                with self.subTest(row=row):
                    self.assertEqual(last(*begun, who(*row)), [number])


class Names(unittest.TestCase):
    def test_no_named_things(self):
        self.assertEqual(ask_each(NAMES), [[0]])
        self.assertEqual(last(line([0], [2, 0]), NAMES), [0])

    def test_names_of_which_nothing_is_said(self):
        self.assertEqual(last(THING, NAMES), [1, 1, 1, 1, 1])
        self.assertEqual(last(THING, says(0, 2, 2), NAMES), [1, 1, 1, 2, 1])
        self.assertEqual(last(line([0], [2, 3]), THING, THING, NAMES), [2, 1, 1, 1, 2, 1, 1, 1, 2])

    def test_a_name_for_which_there_would_be_no_room(self):
        self.assertEqual(last(THING, FIVE_ATOMS, NAMES), [1, 1, 1, 1, 1])
        self.assertEqual(last(THING, FIVE_ATOMS, says(0, 5, 2, 1), NAMES), [1, 1, 0, 1, 1])

    def test_sure_surely_not_and_neither(self):
        begun = [line([2, 0], [2, 1]), THING, THING, THING, says(0, 2, 0), says(2, 5, 2, 1), says(1, 4, 2, 0, 2, 2)]
        self.assertEqual(last(*begun, NAMES), [3, 2, 2, 1, 1, 1, 1, 1, 1, 0, 0, 1, 1])
        self.assertEqual(last(*begun, says(1, 5, 2, 2), NAMES), [3, 2, 2, 1, 1, 2, 2, 0, 1, 0, 0, 1, 1])

    def test_by_ties(self):
        begun = [THING, THING, says(0, 7, 1, 3, 2, 3, 5, 2, 1), tie(1, 0, 1)]
        self.assertEqual(last(*begun, NAMES), [2, 1, 1, 1, 1, 1, 0, 1, 2])
        self.assertEqual(last(*begun, untie(0), NAMES), [2, 1, 1, 1, 1, 1, 1, 1, 1])

    def test_as_is(self):
        begun = [line([2, 0], [4, 2, 1, 2, 2]), THING, THING, says(0, 3, 2, 0, 5, 2, 1), says(1, 5, 2, 2)]
        each = ask(*begun, *[sure(thing, 2, name) for thing in (0, 1) for name in (0, 1, 2, 3)])[5:]
        self.assertEqual(each, [2, 0, 2, 1, 1, 1, 0, 1])
        self.assertEqual(last(*begun, NAMES), [2] + each)

    def test_refusals(self):
        for calls in CAN_NOT_BE + NOTHING_LEFT:
            with self.subTest(calls=calls):
                self.assertEqual(last(*calls, NAMES), [-6])

    def test_after_unsay_and_begins(self):
        begun = [THING, THING, says(0, 2, 0), says(1, 2, 1), says(0, 2, 2)]
        self.assertEqual(last(*begun, unsay(1), NAMES), [2, 2, 1, 2, 1, 1, 1, 1, 1])
        self.assertEqual(last(*begun, unsay(0), unsay(1), NAMES), [2, 1, 1, 1, 1, 1, 2, 1, 1])
        self.assertEqual(last(*begun, BEGINS, NAMES), [0])
        self.assertEqual(last(*begun, BEGINS, THING, NAMES), [1, 1, 1, 1, 1])


class AsItWas(unittest.TestCase):
    """Neither a refusal nor an answer to what is asked changes anything."""

    BEGUN = [line([2, 0], [6, 0, 2, 1]), THING, THING, says(0, 2, 0), tie(0, 0, 1), says(1, 4, 2, 1, 2, 2), tie(1, 1, 0)]
    AFTER = [WHOLE, sure(1, 6, 1, 2, 0), who(4, 2, 1, 2, 2), NAMES, MODEL, says(0, 2, 3), tie(0, 1, 1), untie(2),
             unsay(2), THING, MODEL]

    def check(self, call, answer):
        fine = ask_each(*self.BEGUN, *self.AFTER)
        many = len(self.BEGUN)
        self.assertEqual(ask_each(*self.BEGUN, call, *self.AFTER), fine[:many] + [answer] + fine[many:])

    def test_what_the_answers_are(self):
        self.assertEqual(ask_each(*self.BEGUN, *self.AFTER), [
            [0], [0], [1], [0], [0], [1], [1], [1], [2], [1, 1], [2, 2, 1, 1, 1, 1, 1, 1, 1],
            [3, 1, 2, 0, 1, 0, 2, 2, 1, 1, 0, 2, 0], [2], [2], [2], [2], [2],
            [4, 1, 2, 0, 1, 0, 3, 2, 1, 1, 0, 0, 0, 2, 0]])

    def test_after_each_refusal(self):
        for call, number in (
                (untie(2), -2), (untie(HIGHEST), -2), (sure(0, 8), -1), (sure(2, 0), -2),
                (sure(0, 6, 0, 6, 1, 0), -7), (who(2), -1), (who(6, 0, 6, 1, 0), -7)):
            with self.subTest(call=call):
                self.check(call, [number])

    def test_after_each_answer(self):
        for call, answer in (
                (WHOLE, [1]), (sure(1, 6, 0, 0), [1]), (who(6, 0, 0), [1, 0]), (NAMES, [2, 2, 1, 1, 1, 1, 1, 1, 1]),
                (MODEL, [3, 1, 2, 0, 1, 0, 2, 2, 1, 1, 0, 2, 0])):
            with self.subTest(call=call):
                self.check(call, answer)

    def test_after_it_can_not_all_be_so(self):
        told = ask_each(THING, says(0, 2, 0), says(0, 5, 2, 0), sure(0, 0), who(0), NAMES, MODEL, WHOLE, unsay(1),
                        sure(0, 2, 0), who(2, 0), NAMES, MODEL, WHOLE)
        self.assertEqual(told, [[0], [0], [1], [-6], [-6], [-6], [-6], [0], [1], [2], [1, 0], [1, 2, 1, 1, 1],
                                [1, 1, 0], [1]])


if __name__ == "__main__":
    unittest.main()
