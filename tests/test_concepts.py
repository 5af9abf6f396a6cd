"""What a concept is, and what its atoms are and in which order."""

import unittest

from tests.helper import HIGHEST
from thingssaid.concepts import atoms_of, is_just

CONCEPTS = (
    [0], [1], [2, 0], [2, 3], [3, 0, 1], [4, 2, 1, 2, 2], [5, 0], [6, 0, 0], [6, 1, 2, 3], [7, 0, 1], [7, 1, 2, 0],
    [3, 4, 0, 1, 5, 2, 2], [6, 0, 7, 1, 6, 1, 3, 2, 0, 5, 1], [5] * 29 + [0], [3] * 14 + [0] * 15,
    [6, 1] * 14 + [2, 3],
)

NO_CONCEPTS = (
    [], [8], [HIGHEST], [2], [2, 4], [2, HIGHEST], [3], [3, 0], [3, 2, 0], [4], [4, 1], [5], [6], [6, 0], [6, 2, 0],
    [6, HIGHEST, 0], [7], [7, 1], [7, 2, 0], [7, HIGHEST, 1], [0, 0], [2, 0, 0], [3, 0, 1, 1], [5, 8], [6, 0, 8],
    [7, 1, 2], [7, 1, 2, 4], [4, 0, 9], [5] * 30, [3] * 15 + [0] * 15, [3] * 14 + [0] * 16, [6, 1] * 15, [HIGHEST] * 30,
)

NO_TWO_CONCEPTS = (
    [], [0], [2, 0], [3, 0, 0], [0, 0, 0], [0, 8], [8, 0], [HIGHEST, 0], [0, 2, 4], [2, 4, 0], [2, 1, 6, 0],
    [0, 3, 1], [0, 6, 2, 0], [7, HIGHEST, 0, 0], [2, 0, 2, 1, 2], [2, 0, 2, 1, 8], [0, 1, HIGHEST], [8] * 30,
    [5] * 29 + [0], [3] * 15 + [0] * 15, [0] * 30, [HIGHEST] * 30,
)


class JustConcepts(unittest.TestCase):
    def test_each_concept_is_just_one(self):
        for row in CONCEPTS:
            with self.subTest(row=row):
                self.assertIs(is_just(row, 1), True)

    def test_what_is_not_just_one_concept(self):
        for row in NO_CONCEPTS:
            with self.subTest(row=row):
                self.assertIs(is_just(row, 1), False)

    def test_two_concepts_are_just_two(self):
        for first in CONCEPTS:
            for second in CONCEPTS:
                with self.subTest(first=first, second=second):
                    self.assertIs(is_just(first + second, 2), True)
                    self.assertIs(is_just(first + second, 1), False)

    def test_what_is_not_just_two_concepts(self):
        for row in NO_TWO_CONCEPTS:
            with self.subTest(row=row):
                self.assertIs(is_just(row, 2), False)


class Atoms(unittest.TestCase):
    def test_what_has_none(self):
        self.assertEqual(atoms_of([]), [])
        self.assertEqual(atoms_of([[0], [1], [3, 0, 5, 4, 1, 0]]), [])

    def test_names_roles_and_what_is_within_them(self):
        self.assertEqual(atoms_of([[2, 3]]), [(2, 3)])
        self.assertEqual(atoms_of([[6, 0, 2, 1]]), [(6, 0, 2, 1), (2, 1)])
        self.assertEqual(atoms_of([[5, 7, 1, 0]]), [(7, 1, 0)])
        self.assertEqual(atoms_of([[7, 1, 6, 0, 5, 2, 2]]), [(7, 1, 6, 0, 5, 2, 2), (6, 0, 5, 2, 2), (2, 2)])

    def test_from_left_to_right_itself_ahead_of_its_parts(self):
        row = [3, 6, 1, 4, 2, 2, 2, 0, 3, 2, 1, 7, 0, 2, 3]
        self.assertEqual(atoms_of([row]), [(6, 1, 4, 2, 2, 2, 0), (2, 2), (2, 0), (2, 1), (7, 0, 2, 3), (2, 3)])

    def test_each_once_where_it_first_is(self):
        self.assertEqual(atoms_of([[3, 2, 1, 6, 0, 2, 1]]), [(2, 1), (6, 0, 2, 1)])
        self.assertEqual(atoms_of([[2, 2, 2, 0], [3, 2, 0, 2, 1], [2, 2]]), [(2, 2), (2, 0), (2, 1)])

    def test_a_row_of_two_concepts(self):
        self.assertEqual(atoms_of([[6, 0, 1, 5, 7, 0, 1]]), [(6, 0, 1), (7, 0, 1)])

    def test_as_it_stands(self):
        rows = [[6, 0, 2, 0], [6, 0, 5, 5, 2, 0], [6, 1, 2, 0], [7, 0, 2, 0], [6, 0, 3, 2, 0, 0], [6, 0, 3, 0, 2, 0]]
        alike = [tuple(row) for row in rows]
        self.assertEqual(atoms_of(rows), alike[:1] + [(2, 0)] + alike[1:])

    def test_a_role_or_name_number_is_no_concept(self):
        # The numbers behind 2, 6 and 7 could be taken for concepts of their own.
        self.assertEqual(atoms_of([[2, 2], [6, 1, 0]]), [(2, 2), (6, 1, 0)])


if __name__ == "__main__":
    unittest.main()
