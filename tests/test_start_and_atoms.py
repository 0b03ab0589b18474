"""Point 1: start, yes, bound."""

import unittest

from tests.helper import answered, bound, bounds, claim, drop, last, start, wider, yes

EIGHT = [yes()] * 8


class Start(unittest.TestCase):
    def test_answers_u(self):
        self.assertEqual(answered(start(1), start(2), start(3), start(4)), [1, 2, 3, 4])

    def test_u_outside_of_1_to_4(self):
        self.assertEqual(answered(start(0), start(5), start(4294967295)), [-1, -1, -1])

    def test_at_the_beginning_u_is_3(self):
        self.assertEqual(answered(bound(3, 0, 0), bound(4, 0, 0), bound(0, 4, 0)), [1, -1, -1])

    def test_each_u_is_the_highest_unknown(self):
        for u in (1, 2, 3, 4):
            self.assertEqual(
                answered(start(u), bound(u, 0, 0), bound(0, u, 0), bound(u + 1, 0, 0), bound(0, u + 1, 0)),
                [u, 1, 2, -1, -1],
            )

    def test_there_is_nothing_then(self):
        self.assertEqual(
            answered(yes(), claim(1), claim(-1), start(2), claim(1), drop(1), drop(2), wider(1), yes(), claim(1)),
            [1, 1, 2, 2, -2, -3, -3, -3, 1, 1],
        )

    def test_the_same_u_again_clears_too(self):
        self.assertEqual(answered(yes(), claim(1), start(3), claim(1), yes(), claim(1)), [1, 1, 3, -2, 1, 1])

    def test_room_for_atoms_and_claims_is_whole_again(self):
        calls = EIGHT + [claim(1)] * 16 + [start(1), yes(), yes(), claim(2)]
        self.assertEqual(answered(*calls)[-4:], [1, 1, 2, 1])

    def test_refused_start_clears_nothing(self):
        calls = [start(2), yes(), claim(1), start(5), start(0), bound(2, 0, 0), bound(3, 0, 0), claim(1), drop(1)]
        self.assertEqual(answered(*calls), [2, 1, 1, -1, -1, 2, -1, 2, 1])


class Atoms(unittest.TestCase):
    def test_numbers_rise_over_both_kinds(self):
        self.assertEqual(answered(yes(), bound(1, 2, 5), yes(), bound(0, 3, -5)), [1, 2, 3, 4])

    def test_the_same_bound_twice_is_two_atoms(self):
        self.assertEqual(answered(bound(1, 2, 5), bound(1, 2, 5)), [1, 2])

    def test_eighth_and_ninth(self):
        self.assertEqual(answered(*EIGHT, yes(), bound(1, 0, 0), claim(8), claim(9))[7:], [8, -5, -5, 1, -2])

    def test_eighth_and_ninth_bound(self):
        calls = [bound(1, 0, c) for c in range(8)] + [bound(1, 0, 8), yes()]
        self.assertEqual(answered(*calls), [1, 2, 3, 4, 5, 6, 7, 8, -5, -5])

    def test_c_at_its_ends(self):
        calls = [bound(1, 2, -1000), bound(1, 2, 1000), bound(1, 2, -1001), bound(1, 2, 1001)]
        self.assertEqual(answered(*calls), [1, 2, -1, -1])
        self.assertEqual(answered(bound(1, 2, -2147483648), bound(1, 2, 2147483647)), [-1, -1])

    def test_the_same_unknown_twice(self):
        self.assertEqual(answered(bound(0, 0, 1), bound(2, 2, 1), bound(9, 9, 1)), [-1, -1, -1])

    def test_unknowns_above_u(self):
        self.assertEqual(answered(bound(4294967295, 0, 1), bound(0, 4294967295, 1)), [-1, -1])

    def test_wrong_bound_is_told_ahead_of_too_many(self):
        calls = EIGHT + [bound(1, 1, 0), bound(4, 0, 0), bound(0, 4, 0), bound(1, 2, 1001), bound(1, 2, 0)]
        self.assertEqual(answered(*calls)[8:], [-1, -1, -1, -1, -5])

    def test_refused_atoms_take_no_number(self):
        self.assertEqual(answered(yes(), bound(1, 1, 0), bound(1, 0, 1001), yes(), claim(3)), [1, -1, -1, 2, -2])

    def test_bound_is_a_at_most_c_more_than_b(self):
        # Of 1 at most 3 more than 2, and 2 at most -4 more than 1, both can't be.
        self.assertEqual(last(bound(1, 2, 3), bound(2, 1, -4), bounds(-1, -2)), 1)
        self.assertEqual(last(bound(1, 2, 3), bound(2, 1, -3), bounds(-1, -2)), -6)


if __name__ == "__main__":
    unittest.main()
