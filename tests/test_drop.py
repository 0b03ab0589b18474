"""Point 4, of drop: what goes, what stays, what is refused."""

import unittest

from tests.helper import answered, bound, bounds, chain, claim, drop, joined, last, wider, yes

THREE = [yes(), yes(), bound(1, 0, 0)]


class Drop(unittest.TestCase):
    def test_a_claim_alone(self):
        self.assertEqual(answered(*THREE, claim(1), claim(2), drop(1), wider(2, 2), wider(1, 1))[3:], [1, 2, 1, 3, -3])

    def test_what_rests_on_it_through_several_steps(self):
        calls = THREE + [claim(1), claim(-1, 2), joined(1, 2, 1, 2), wider(3, 2, 3), chain([4], 2, 3), wider(2, -1, 2)]
        calls += [wider(5, 2, 3, 1), drop(1)]
        self.assertEqual(answered(*calls)[3:], [1, 2, 3, 4, 5, 6, 7, 5])
        there = [wider(1, 1), wider(2, -1, 2), wider(3, 2), wider(4, 2, 3), wider(5, 2, 3), wider(6, -1, 2)]
        self.assertEqual(answered(*calls, *there)[11:], [-3, 8, -3, -3, -3, 9])

    def test_either_line_of_two_that_were_joined(self):
        calls = THREE + [claim(1), claim(-1), joined(1, 2, 1)]
        self.assertEqual(answered(*calls, drop(1), wider(3), drop(2))[6:], [2, -3, 1])
        self.assertEqual(answered(*calls, drop(2), wider(3), drop(1))[6:], [2, -3, 1])

    def test_the_atom_of_joined_is_no_source(self):
        # Lines 2 and 3 are joined by atom 1: claim 1 is no source.
        calls = THREE + [claim(2), claim(1), claim(-1), joined(2, 3, 1), drop(1), wider(4)]
        self.assertEqual(answered(*calls)[7:], [1, 5])

    def test_each_line_of_a_chain(self):
        begin = THREE + [claim(1, 2), claim(-1), claim(-2), chain([2, 3, 1])]
        for k in (1, 2, 3):
            self.assertEqual(answered(*begin, drop(k), wider(4))[7:], [2, -3])

    def test_lines_of_a_chain_behind_the_broken_one(self):
        calls = THREE + [claim(1), claim(-1), claim(2), chain([1, 2, 3]), drop(3), wider(4)]
        self.assertEqual(answered(*calls)[7:], [2, -3])

    def test_lines_by_differences_stay(self):
        calls = THREE + [claim(3), bounds(3, -3), chain([2], 3, -3), drop(1), wider(2, 3, -3), wider(3, 3, -3)]
        self.assertEqual(answered(*calls)[3:], [1, 2, 3, 1, 4, 5])

    def test_the_same_clause_by_another_line_stays(self):
        calls = THREE + [claim(1), claim(1), wider(1, 1), wider(2, 1), drop(1), wider(3, 1), wider(4, 1)]
        self.assertEqual(answered(*calls)[3:], [1, 2, 3, 4, 2, -3, 5])

    def test_numbers_of_lines_gone_are_not_used_again(self):
        calls = THREE + [claim(1), wider(1, 1), claim(2), drop(3), claim(2), drop(1), claim(1), wider(5, 1), drop(5)]
        calls += [drop(4), claim(1)]
        self.assertEqual(answered(*calls)[3:], [1, 2, 3, 1, 4, 2, 5, 6, 2, 1, 7])

    def test_atoms_stay(self):
        self.assertEqual(answered(*THREE, claim(3), drop(1), claim(3), yes())[3:], [1, 1, 2, 4])

    def test_no_line(self):
        calls = THREE + [drop(1), drop(0), claim(1), drop(2), drop(0), drop(4294967295), drop(1), drop(1)]
        self.assertEqual(answered(*calls)[3:], [-3, -3, 1, -3, -3, -3, 1, -3])

    def test_no_claim(self):
        calls = THREE + [claim(1), claim(-1), wider(1, 1), joined(1, 2, 1), chain([1], 1), bounds(3, -3)]
        calls += [drop(3), drop(4), drop(5), drop(6), drop(1), drop(6), drop(3)]
        self.assertEqual(answered(*calls)[9:], [-1, -1, -1, -1, 4, -1, -3])

    def test_refused_drop_takes_nothing(self):
        calls = THREE + [claim(1), wider(1, 1), drop(2), drop(3), wider(2, 1), drop(1)]
        self.assertEqual(answered(*calls)[3:], [1, 2, -1, -3, 3, 3])

    def test_a_line_shown_again_after_its_source_went(self):
        calls = THREE + [claim(1), drop(1), wider(1, 1), claim(1), wider(2, 1), drop(2)]
        self.assertEqual(answered(*calls)[3:], [1, 1, -3, 2, 3, 2])

    def test_a_line_on_several_claims_goes_once(self):
        calls = THREE + [claim(1), claim(-1), joined(1, 2, 1), chain([3, 1, 2]), chain([1, 1, 2, 3, 4])]
        calls += [drop(1), drop(2)]
        self.assertEqual(answered(*calls)[3:], [1, 2, 3, 4, 5, 4, 1])

    def test_last_number_after_all_went(self):
        self.assertEqual(last(*THREE, claim(1), claim(1), drop(2), drop(1), claim(1)), 3)


if __name__ == "__main__":
    unittest.main()
