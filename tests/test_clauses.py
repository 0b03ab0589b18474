"""Clauses: how one is told, and when it's loose."""

import unittest

from clauseproofs.clauses import clause_of, is_loose


class Clauses(unittest.TestCase):
    def test_told_by_atoms_rising(self):
        self.assertEqual(clause_of([3, -1, 2]), (-1, 2, 3))
        self.assertEqual(clause_of([-8, -3, -7]), (-3, -7, -8))

    def test_opposite_first_of_the_same_atom(self):
        self.assertEqual(clause_of([2, 1, -2, -1]), (-1, 1, -2, 2))

    def test_told_twice_is_in_it_once(self):
        self.assertEqual(clause_of([5, -4, 5, 5, -4]), (-4, 5))

    def test_without_literals(self):
        self.assertEqual(clause_of([]), ())
        self.assertFalse(is_loose(()))

    def test_loose(self):
        self.assertTrue(is_loose((1, -2, 2)))
        self.assertFalse(is_loose((1, -2, 3)))


if __name__ == "__main__":
    unittest.main()
