"""decide: the first world in which all claims hold, or none."""

import itertools
import unittest

from tests.helper import bound, bounds, chain, claim, decide, drop, joined, last_told, start, told, wider, yes


class NoAtoms(unittest.TestCase):
    def test_at_the_beginning(self):
        self.assertEqual(last_told(decide()), [1, 0, 3, 0, 0, 0])

    def test_each_u(self):
        for u in (1, 2, 3, 4):
            self.assertEqual(last_told(start(u), decide()), [1, 0, u] + [0] * u)

    def test_a_claim_without_literals(self):
        self.assertEqual(told(claim(), decide(), drop(1), decide()), [[1], [0], [1], [1, 0, 3, 0, 0, 0]])


class Questions(unittest.TestCase):
    def check(self, count, claims, row):
        calls = [start(1)] + [yes()] * count + [claim(*literals) for literals in claims] + [decide()]
        self.assertEqual(last_told(*calls), [0] if row is None else [1, count] + row + [1, 0])

    def test_no_claims_all_no(self):
        self.check(1, [], [0])
        self.check(8, [], [0] * 8)

    def test_yes_as_late_as_can_be(self):
        self.check(3, [(1, 2, 3)], [0, 0, 1])
        self.check(3, [(1, 2), (3,)], [0, 1, 1])
        self.check(3, [(1, 2), (-2,)], [1, 0, 0])

    def test_no_at_the_first_atom_counts_more_than_few_yes(self):
        self.check(4, [(1, 2), (-2, 3), (-2, 4)], [0, 1, 1, 1])

    def test_no_world(self):
        self.check(1, [(1,), (-1,)], None)
        self.check(2, [(1, 2), (1, -2), (-1, 2), (-1, -2)], None)
        self.check(2, [()], None)

    def test_last_world_of_all(self):
        self.check(8, [(k,) for k in range(1, 9)], [1] * 8)

    def test_all_pairs_of_short_claims(self):
        clauses = [clause for size in (1, 2) for clause in itertools.combinations((1, -1, 2, -2, 3, -3), size)]
        clauses = [clause for clause in clauses if sum(clause) != 0]
        for pair in itertools.product(clauses, repeat=2):
            rows = [
                list(row) for row in itertools.product((0, 1), repeat=3)
                if all(any(row[abs(literal) - 1] == (literal > 0) for literal in clause) for clause in pair)
            ]
            self.check(3, pair, rows[0] if rows else None)


class Unknowns(unittest.TestCase):
    def check(self, u, atoms, claims, row, unknowns):
        calls = [start(u)] + [bound(*atom) for atom in atoms] + [claim(literal) for literal in claims] + [decide()]
        self.assertEqual(last_told(*calls), [1, len(atoms)] + row + [u] + unknowns)

    def test_not_so_if_it_can_be(self):
        # More than c more than unknown 0.
        self.check(2, [(1, 0, 0)], [], [0], [1, 0])
        self.check(2, [(1, 0, 5)], [], [0], [6, 0])
        self.check(2, [(1, 0, -1)], [], [0], [0, 0])
        self.check(2, [(0, 2, 0)], [], [0], [0, -1])

    def test_below_0(self):
        self.check(2, [(1, 0, -5)], [1], [1], [-5, 0])
        self.check(2, [(2, 0, -1)], [1], [1], [0, -1])

    def test_above_0(self):
        self.check(2, [(0, 1, -7)], [1], [1], [7, 0])
        self.check(2, [(0, 2, -1)], [1], [1], [0, 1])

    def test_0_if_it_can_be(self):
        self.check(2, [(1, 0, 9), (0, 1, 9)], [1, 2], [1, 1], [0, 0])
        self.check(2, [(1, 0, 0), (0, 1, 0)], [1, 2], [1, 1], [0, 0])

    def test_both_sides_on_one_side_of_0(self):
        self.check(1, [(1, 0, 9), (0, 1, -4)], [1, 2], [1, 1], [4])
        self.check(1, [(1, 0, -4), (0, 1, 9)], [1, 2], [1, 1], [-4])

    def test_unknown_1_is_near_0_ahead_of_2(self):
        self.check(2, [(1, 2, -3)], [1], [1], [0, 3])
        self.check(2, [(2, 1, -3)], [1], [1], [0, -3])

    def test_an_unknown_that_one_behind_it_moves(self):
        # 2 at most 1, and 1 at most 3 less than 2.
        self.check(3, [(1, 2, -3), (2, 0, 1)], [1, 2], [1, 1], [-2, 1, 0])
        # 3 at least 9, 2 no less than 3 less 2, 1 no less than 2 less 3.
        self.check(3, [(0, 3, -9), (3, 2, 2), (2, 1, 3)], [1, 2, 3], [1, 1, 1], [4, 7, 9])

    def test_an_unknown_between_two(self):
        # 1 is 0 as it can be; 2 then lies 5 to 8 above 1, and 3 lies 20 or more below 2.
        atoms = [(1, 2, -5), (2, 1, 8), (3, 2, -20)]
        self.check(4, atoms, [1, 2, 3], [1, 1, 1], [0, 5, -15, 0])

    def test_far_away(self):
        up = [(0, 1, -1000), (1, 2, -1000), (2, 3, -1000), (3, 4, -1000)]
        self.check(4, up, [1, 2, 3, 4], [1] * 4, [1000, 2000, 3000, 4000])
        down = [(4, 3, -1000), (3, 2, -1000), (2, 1, -1000), (1, 0, -1000)]
        self.check(4, down, [1, 2, 3, 4], [1] * 4, [-1000, -2000, -3000, -4000])
        self.check(4, [(1, 0, 1000), (2, 1, 1000), (3, 2, 1000), (4, 3, 1000)], [], [0] * 4, [1001, 2002, 3003, 4004])
        self.check(4, [(0, 4, 1000), (4, 3, 1000)], [], [0, 0], [0, 0, -2002, -1001])

    def test_rows_that_differences_rule_out(self):
        # If 1 is at most 0, it is at most 5 too.
        self.check(1, [(1, 0, 0), (1, 0, 5)], [], [0, 0], [6])
        self.check(1, [(1, 0, 0), (1, 0, 5)], [1], [1, 1], [0])
        self.check(1, [(1, 0, 5), (1, 0, 0)], [1], [1, 0], [1])
        self.check(2, [(1, 2, 0), (2, 1, 0)], [], [0, 1], [0, -1])

    def test_the_row_counts_ahead_of_the_unknowns(self):
        # All unknowns could be 0 if atom 1 were so.
        self.check(3, [(1, 0, 0), (2, 1, 100), (3, 2, 0)], [], [0, 0, 0], [1, 102, 103])

    def test_no_world_by_differences(self):
        calls = [bound(1, 2, 3), bound(2, 1, -4), claim(1), claim(2), decide(), drop(2), decide()]
        self.assertEqual(told(*calls)[4:], [[0], [1], [1, 2, 1, 0, 3, 0, 0, 0]])

    def test_no_world_by_both(self):
        calls = [yes(), bound(1, 0, 0), bound(1, 0, 1), claim(1, 2), claim(-1, 2), claim(-3), decide()]
        self.assertEqual(last_told(*calls), [0])
        self.assertEqual(last_told(*calls[:-2], decide()), [1, 3, 0, 1, 1, 3, 0, 0, 0])


class WhatCounts(unittest.TestCase):
    def test_questions_and_bounds_among_one_another(self):
        calls = [start(2), yes(), bound(2, 0, -2), yes(), bound(0, 1, -2), claim(1, 2), claim(-2, 4), decide()]
        self.assertEqual(last_told(*calls), [1, 4, 0, 1, 0, 1, 2, 2, -2])

    def test_claims_that_went_do_not_count(self):
        calls = [start(1), yes(), claim(1), claim(-1), decide(), drop(2), decide(), drop(1), decide()]
        self.assertEqual(told(*calls)[4:], [[0], [1], [1, 1, 1, 1, 0], [1], [1, 1, 0, 1, 0]])

    def test_other_lines_change_nothing(self):
        calls = [start(1), yes(), bound(1, 0, 0), claim(1, 2), claim(-2), decide()]
        more = [joined(1, 2, 2, 1), wider(3, 1, -2), chain([1, 2], 1), bounds(2, -2), decide()]
        self.assertEqual(last_told(*calls), [1, 2, 1, 0, 1, 1])
        self.assertEqual(last_told(*calls[:-1], *more), [1, 2, 1, 0, 1, 1])

    def test_it_changes_nothing(self):
        calls = [start(2), yes(), claim(1), decide(), decide(), claim(-1), decide(), decide(), yes(), claim(2)]
        self.assertEqual(told(*calls)[3:], [[1, 1, 1, 2, 0, 0]] * 2 + [[2]] + [[0]] * 2 + [[2], [3]])

    def test_atoms_without_claims(self):
        self.assertEqual(last_told(yes(), bound(1, 0, 0), decide()), [1, 2, 0, 0, 3, 1, 0, 0])


if __name__ == "__main__":
    unittest.main()
