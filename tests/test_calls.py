"""The calls begins, line, thing, says, tie and unsay: what they answer and what they refuse."""

import unittest

from tests.helper import BEGINS, HIGHEST, THING, ask, joined, line, says, tie, unsay
from tests.test_concepts import CONCEPTS, NO_CONCEPTS, NO_TWO_CONCEPTS
from thingssaid.house import answers

FIVE_ATOMS = line([6, 0, 2, 0], [7, 1, 3, 2, 1, 2, 2])


class Ordinary(unittest.TestCase):
    def test_told_in_numbers(self):
        calls = [2, 2, 1, 4, 2, 0, 2, 1, 3, 1, 2, 5, 0, 4, 0, 0, 1, 5, 0, 0, 2]
        self.assertEqual(answers(calls), [1, 0, 1, 1, 1, 0, 1, 0, 1, 0, 1, 0, 1, 0, 1, 0])

    def test_each_call_alone(self):
        self.assertEqual(ask(BEGINS), [0])
        self.assertEqual(ask(line([2, 0], [5, 2, 1])), [0])
        self.assertEqual(ask(THING), [0])
        self.assertEqual(ask(THING, says(0, 2, 3)), [0, 0])
        self.assertEqual(ask(THING, tie(1, 0, 0)), [0, 0])
        self.assertEqual(ask(THING, says(0, 0), unsay(0)), [0, 0, 0])

    def test_each_counts_for_itself(self):
        told = ask(line([0], [2, 0]), THING, says(0, 2, 1), THING, tie(0, 0, 1), says(1, 2, 0), line([2, 1], [1]),
                   tie(1, 1, 0), says(0, 0), THING, tie(0, 2, 2))
        self.assertEqual(told, [0, 0, 0, 1, 0, 1, 1, 1, 2, 2, 2])

    def test_the_same_again_counts_again(self):
        self.assertEqual(ask(line([0], [0]), line([0], [0])), [0, 1])
        self.assertEqual(ask(THING, says(0, 2, 1), says(0, 2, 1)), [0, 0, 1])
        self.assertEqual(ask(THING, tie(0, 0, 0), tie(0, 0, 0)), [0, 0, 1])

    def test_what_contradicts_is_taken_too(self):
        self.assertEqual(ask(line([0], [1]), THING, says(0, 1), says(0, 2, 0), says(0, 5, 2, 0)), [0, 0, 0, 1, 2])

    def test_unsay_moves_up_what_is_behind(self):
        told = ask(THING, says(0, 2, 0), says(0, 2, 1), says(0, 2, 2), unsay(1), unsay(2), says(0, 0), unsay(0),
                   unsay(1), unsay(0), unsay(0), says(0, 1))
        self.assertEqual(told, [0, 0, 1, 2, 2, -2, 2, 2, 1, 0, -2, 0])

    def test_sixty_calls(self):
        self.assertEqual(ask(*[THING, says(0, 2, 0), unsay(0)] * 20), [0, 0, 0, 1, 0, 0, 2, 0, 0] + [-7, 0, 0] * 17)


class Begins(unittest.TestCase):
    def test_all_is_as_at_the_beginning(self):
        full = ([THING] * 3 + [FIVE_ATOMS] + [line([0], [0])] * 4 + [says(2, 2, 0)] * 6 + [tie(1, 2, 0)] * 6)
        fine = [0, 1, 2, 0, 1, 2, 3, 4, 0, 1, 2, 3, 4, 5, 0, 1, 2, 3, 4, 5]
        self.assertEqual(ask(*full, BEGINS, *full), fine + [0] + fine)

    def test_no_thing_and_nothing_said_is_left(self):
        told = ask(THING, says(0, 0), tie(0, 0, 0), BEGINS, says(0, 0), tie(0, 0, 0), unsay(0), THING, unsay(0),
                   tie(0, 0, 0), says(0, 0))
        self.assertEqual(told, [0, 0, 0, 0, -2, -2, -2, 0, -2, 0, 0])

    def test_the_atoms_of_before_do_not_count(self):
        self.assertEqual(ask(FIVE_ATOMS, line([0], [2, 3]), BEGINS, line([0], [2, 3])), [0, -7, 0, 0])
        told = ask(THING, says(0, *FIVE_ATOMS[2:6]), BEGINS, THING, says(0, 7, 0, 7, 0, 7, 0, 7, 0, 2, 3))
        self.assertEqual(told, [0, 0, 0, 0, 0])

    def test_again_and_again(self):
        self.assertEqual(ask(BEGINS, BEGINS, THING, BEGINS, THING, THING, BEGINS), [0, 0, 0, 0, 0, 1, 0])


class Malformed(unittest.TestCase):
    def test_says_what_is_not_just_a_concept(self):
        for row in NO_CONCEPTS:
            with self.subTest(row=row):
                self.assertEqual(ask(THING, says(0, *row)), [0, -1])

    def test_line_of_what_is_not_just_two_concepts(self):
        for row in NO_TWO_CONCEPTS:
            with self.subTest(row=row):
                self.assertEqual(ask(line(row)), [-1])

    def test_line_where_one_of_the_two_is_none(self):
        for row in ([8], [HIGHEST], [2], [2, 4], [3, 0], [5], [6, 0], [6, 2, 0], [7, HIGHEST, 0], [0, 0], [2, 0, 2, 1]):
            with self.subTest(row=row):
                self.assertEqual(ask(line([0], row)), [-1])
                self.assertEqual(ask(line([2, 0], row)), [-1])
        for row in ([8], [HIGHEST], [2, 4], [6, 2, 0], [7, HIGHEST, 0]):
            with self.subTest(row=row):
                self.assertEqual(ask(line(row, [0])), [-1])

    def test_line_of_one_concept_or_three(self):
        for row in CONCEPTS:
            with self.subTest(row=row):
                self.assertEqual(ask(line(row)), [-1])
        self.assertEqual(ask(line([0], [2, 1], [1])), [-1])

    def test_says_two_concepts(self):
        self.assertEqual(ask(THING, says(0, 2, 0, 2, 1)), [0, -1])

    def test_tie_by_a_role_that_is_none(self):
        for role in (2, 3, 7, HIGHEST):
            with self.subTest(role=role):
                self.assertEqual(ask(THING, tie(role, 0, 0)), [0, -1])

    def test_both_roles_are_roles(self):
        self.assertEqual(ask(THING, tie(0, 0, 0), tie(1, 0, 0)), [0, 0, 1])
        self.assertEqual(ask(THING, says(0, 6, 0, 0), says(0, 6, 1, 0), says(0, 7, 0, 0), says(0, 7, 1, 0)),
                         [0, 0, 1, 2, 3])

    def test_all_names_are_names(self):
        self.assertEqual(ask(THING, *[says(0, 2, name) for name in (0, 1, 2, 3, 4)]), [0, 0, 1, 2, 3, -1])


class NoneSuch(unittest.TestCase):
    def test_says_of_a_thing_that_is_not_there(self):
        self.assertEqual(ask(says(0, 0)), [-2])
        self.assertEqual(ask(THING, says(1, 0), says(HIGHEST, 0), says(0, 0)), [0, -2, -2, 0])
        self.assertEqual(ask(THING, THING, THING, says(3, 0), says(2, 0)), [0, 1, 2, -2, 0])

    def test_tie_of_a_thing_that_is_not_there(self):
        self.assertEqual(ask(tie(0, 0, 0)), [-2])
        told = ask(THING, THING, tie(0, 2, 0), tie(0, 0, 2), tie(1, HIGHEST, 0), tie(1, 1, HIGHEST), tie(1, 2, 2),
                   tie(1, 1, 0))
        self.assertEqual(told, [0, 1, -2, -2, -2, -2, -2, 0])

    def test_unsay_of_one_that_is_not_there(self):
        self.assertEqual(ask(unsay(0)), [-2])
        self.assertEqual(ask(THING, says(0, 0), unsay(1), unsay(HIGHEST), unsay(0), unsay(0)), [0, 0, -2, -2, 0, -2])

    def test_unsay_does_not_count_axioms_or_ties(self):
        self.assertEqual(ask(THING, line([0], [0]), tie(0, 0, 0), unsay(0)), [0, 0, 0, -2])


class Full(unittest.TestCase):
    def test_five_axioms(self):
        self.assertEqual(ask(*[line([0], [0])] * 7), [0, 1, 2, 3, 4, -7, -7])

    def test_three_things(self):
        self.assertEqual(ask(*[THING] * 5), [0, 1, 2, -7, -7])

    def test_six_said(self):
        self.assertEqual(ask(THING, *[says(0, 0)] * 8), [0, 0, 1, 2, 3, 4, 5, -7, -7])

    def test_six_said_of_all_things_together(self):
        told = ask(THING, THING, *[says(0, 0), says(1, 0)] * 3, says(0, 0), says(1, 0))
        self.assertEqual(told, [0, 1, 0, 1, 2, 3, 4, 5, -7, -7])

    def test_six_said_and_one_unsaid(self):
        told = ask(THING, *[says(0, 0)] * 7, unsay(5), says(0, 1), says(0, 1), unsay(0), says(0, 0))
        self.assertEqual(told, [0, 0, 1, 2, 3, 4, 5, -7, 5, 5, -7, 5, 5])

    def test_six_ties(self):
        self.assertEqual(ask(THING, *[tie(1, 0, 0)] * 8), [0, 0, 1, 2, 3, 4, 5, -7, -7])


class FullOfAtoms(unittest.TestCase):
    def test_in_one_line(self):
        self.assertEqual(ask(line([6, 0, 6, 0, 2, 0], [3, 2, 1, 2, 2])), [0])
        self.assertEqual(ask(line([6, 0, 6, 0, 2, 0], [3, 2, 1, 3, 2, 3, 2, 2])), [-7])

    def test_in_one_that_is_said(self):
        self.assertEqual(ask(THING, says(0, *[6, 1] * 5, 0)), [0, 0])
        self.assertEqual(ask(THING, says(0, *[6, 1] * 6, 0)), [0, -7])
        self.assertEqual(ask(THING, says(0, *[7, 0] * 4, 2, 3)), [0, 0])
        self.assertEqual(ask(THING, says(0, *[7, 0] * 5, 2, 3)), [0, -7])

    def test_of_axioms_and_all_that_is_said_together(self):
        told = ask(line([2, 0], [2, 1]), THING, says(0, 6, 0, 2, 2), says(0, 7, 1, 0), says(0, 2, 3),
                   line([0], [2, 3]), says(0, 6, 1, 0), line([6, 1, 2, 0], [0]))
        self.assertEqual(told, [0, 0, 0, 1, -7, -7, -7, -7])

    def test_of_what_is_said_of_different_things(self):
        told = ask(THING, THING, says(0, 6, 0, 2, 0), says(1, 6, 1, 2, 1), says(0, 2, 2), says(1, 2, 3), says(1, 2, 0))
        self.assertEqual(told, [0, 1, 0, 1, 2, -7, 3])

    def test_over_several_axioms(self):
        told = ask(line([2, 0], [2, 1]), line([2, 2], [2, 3]), line([6, 0, 1], [0]), line([0], [7, 0, 1]),
                   line([6, 0, 1], [2, 3]))
        self.assertEqual(told, [0, 1, 2, -7, 3])

    def test_each_counts_once(self):
        told = ask(THING, FIVE_ATOMS, says(0, 3, 2, 0, 3, 2, 1, 5, 2, 2), says(0, 6, 0, 2, 0),
                   line([7, 1, 3, 2, 1, 2, 2], [4, 2, 0, 4, 2, 0, 2, 0]), says(0, 5, 6, 0, 2, 0))
        self.assertEqual(told, [0, 0, 0, 1, 1, 2])

    def test_as_it_stands(self):
        told = ask(THING, FIVE_ATOMS, says(0, 6, 1, 2, 0), says(0, 7, 0, 2, 0), says(0, 6, 0, 2, 1),
                   says(0, 6, 0, 5, 5, 2, 0), says(0, 7, 1, 3, 2, 2, 2, 1), says(0, 7, 1, 2, 1))
        self.assertEqual(told, [0, 0, -7, -7, -7, -7, -7, -7])

    def test_what_is_no_atom_does_not_count(self):
        told = ask(THING, FIVE_ATOMS, says(0, 3, 0, 1), says(0, 4, 5, 0, 1), line([5, 5, 0], [3, 2, 0, 2, 1]))
        self.assertEqual(told, [0, 0, 0, 1, 1])

    def test_again_after_unsay(self):
        told = ask(THING, line([2, 0], [2, 1]), says(0, 6, 0, 2, 2), says(0, 7, 1, 0), says(0, 2, 3), unsay(1),
                   says(0, 2, 3), says(0, 7, 1, 0), unsay(0), says(0, 7, 1, 0), line([6, 1, 0], [0]),
                   line([7, 0, 1], [0]))
        self.assertEqual(told, [0, 0, 0, 1, -7, 1, 1, -7, 1, 1, 1, -7])

    def test_unsay_leaves_what_is_also_elsewhere(self):
        told = ask(THING, line([2, 0], [2, 1]), says(0, 2, 1), says(0, 2, 2), says(0, 6, 0, 2, 2), says(0, 2, 3),
                   unsay(1), unsay(0), says(0, 7, 0, 0), unsay(0), says(0, 7, 0, 0), says(0, 2, 2))
        self.assertEqual(told, [0, 0, 0, 1, 2, 3, 3, 2, -7, 1, 1, 2])

    def test_unsay_takes_just_the_one_that_is_meant(self):
        told = ask(THING, says(0, 6, 0, 2, 0), says(0, 6, 1, 2, 1), says(0, 2, 2), unsay(1), says(0, 6, 0, 2, 0),
                   says(0, 6, 1, 2, 1), says(0, 2, 3), unsay(0), says(0, 2, 3), unsay(1), says(0, 2, 3))
        self.assertEqual(told, [0, 0, 1, 2, 2, 2, 3, -7, 3, -7, 2, 2])


class ToldFirst(unittest.TestCase):
    def test_line(self):
        self.assertEqual(ask(*[line([0], [0])] * 5, line([0]), line([0], [0])), [0, 1, 2, 3, 4, -1, -7])
        self.assertEqual(ask(FIVE_ATOMS, line([0], [3, 2, 3]), line([2, 3], [0], [0])), [0, -1, -1])

    def test_says_malformed_ahead_of_no_such_thing(self):
        self.assertEqual(ask(says(0), says(HIGHEST, 8), says(1, 0, 0)), [-1, -1, -1])

    def test_says_malformed_ahead_of_full(self):
        self.assertEqual(ask(THING, *[says(0, 0)] * 6, says(0, 2, 4), says(9, 2, 4)), [0, 0, 1, 2, 3, 4, 5, -1, -1])
        self.assertEqual(ask(THING, FIVE_ATOMS, says(0, 3, 2, 3)), [0, 0, -1])

    def test_says_no_such_thing_ahead_of_full(self):
        self.assertEqual(ask(THING, *[says(0, 0)] * 6, says(1, 0), says(0, 0)), [0, 0, 1, 2, 3, 4, 5, -2, -7])
        self.assertEqual(ask(THING, FIVE_ATOMS, says(1, 2, 3), says(0, 2, 3)), [0, 0, -2, -7])

    def test_tie(self):
        self.assertEqual(ask(tie(2, 0, 0), tie(HIGHEST, HIGHEST, HIGHEST)), [-1, -1])
        told = ask(THING, *[tie(0, 0, 0)] * 6, tie(2, 0, 0), tie(2, 1, 0), tie(0, 1, 0), tie(0, 0, 1), tie(0, 0, 0))
        self.assertEqual(told, [0, 0, 1, 2, 3, 4, 5, -1, -1, -2, -2, -7])


class AsItWas(unittest.TestCase):
    """After each refusal the answers go on as if it had never been asked."""

    def test_after_each_refusal(self):
        begun = [THING, line([2, 0], [2, 1]), says(0, 6, 0, 2, 2), tie(0, 0, 0), says(0, 7, 1, 0)]
        refused = [
            (line([0]), -1), (line([2, 0], [2, 3]), -7), (says(0, 8), -1), (says(1, 0), -2), (says(0, 2, 3), -7),
            (tie(2, 0, 0), -1), (tie(0, 0, 1), -2), (tie(0, 1, 0), -2), (unsay(2), -2), (unsay(HIGHEST), -2),
        ]
        after = [line([2, 1], [7, 1, 0]), says(0, 2, 2), tie(1, 0, 0), unsay(1), says(0, 2, 3), THING, THING, THING]
        fine = ask(*begun, *after)
        for call, number in refused:
            with self.subTest(call=call):
                told = ask(*begun, call, *after)
                self.assertEqual(told, fine[:5] + [number] + fine[5:])

    def test_after_full(self):
        told = ask(*[THING] * 4, *[line([0], [0])] * 6, *[tie(0, 2, 2)] * 7, *[says(2, 0)] * 7, unsay(6), unsay(5),
                   says(3, 0), tie(0, 3, 0), says(2, 0), unsay(0))
        self.assertEqual(told, [0, 1, 2, -7, 0, 1, 2, 3, 4, -7, 0, 1, 2, 3, 4, 5, -7, 0, 1, 2, 3, 4, 5, -7, -2, 5,
                                -2, -2, 5, 5])

    def test_the_atoms_of_what_was_refused_do_not_count(self):
        told = ask(THING, line([2, 0, 2, 1], [2, 2]), says(0, 3, 2, 0, 2, 1, 2, 2), says(5, 4, 2, 0, 2, 1),
                   says(0, *[6, 0] * 6, 0), line([0], [6, 1] * 5 + [2, 0]), line([0], [7, 0] * 5 + [0]))
        self.assertEqual(told, [0, -1, -1, -2, -7, -7, 0])


class Whole(unittest.TestCase):
    def test_the_length_of_the_list(self):
        row = [3] * 14 + [0] * 15
        calls = [THING] + [says(0, *row), unsay(0)] * 29 + [THING]
        self.assertLessEqual(len(joined(calls)), 2000)
        self.assertEqual(ask(*calls), [0] + [0, 0] * 29 + [1])


if __name__ == "__main__":
    unittest.main()
