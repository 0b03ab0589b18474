"""Point 2, of claim: what it answers and refuses."""

import unittest

from tests.helper import answered, bound, bounds, chain, claim, drop, joined, last, wider, yes


class Claims(unittest.TestCase):
    def test_numbers_rise_from_1(self):
        self.assertEqual(answered(yes(), yes(), claim(1), claim(-2, 1), claim(1)), [1, 2, 1, 2, 3])

    def test_without_literals(self):
        self.assertEqual(answered(claim(), wider(1), chain([1])), [1, 2, 3])

    def test_literal_told_twice_is_in_it_once(self):
        calls = [yes(), yes(), claim(2, 1, 2, 1, 1), claim(-1), joined(1, 2, 1, 2)]
        self.assertEqual(answered(*calls)[2:], [1, 2, 3])

    def test_twice_is_once_in_a_chain(self):
        # Told twice and counted twice, the literal would leave more than one.
        self.assertEqual(last(yes(), yes(), claim(1, 1), claim(-1, 2, 2), chain([1, 2], 2)), 3)

    def test_literal_of_no_atom(self):
        calls = [claim(1), yes(), claim(2), claim(-2), claim(0), claim(1, 0), claim(1, -2), claim(1)]
        self.assertEqual(answered(*calls), [-2, 1, -2, -2, -2, -2, -2, 1])

    def test_literals_at_the_ends_of_their_range(self):
        self.assertEqual(answered(yes(), claim(2147483647), claim(-2147483648)), [1, -2, -2])

    def test_loose(self):
        calls = [yes(), bound(1, 0, 0), claim(1, -1), claim(-2, 1, 2), claim(2, 2, -1), claim(-1, 1, 1)]
        self.assertEqual(answered(*calls)[2:], [-1, -1, 1, -1])

    def test_sixteenth_and_seventeenth(self):
        calls = [yes()] + [claim(1)] * 17
        self.assertEqual(answered(*calls)[1:], list(range(1, 17)) + [-5])

    def test_claims_that_went_make_room(self):
        calls = [yes()] + [claim(1)] * 16 + [drop(3), claim(1), claim(1)]
        self.assertEqual(answered(*calls)[-3:], [1, 17, -5])

    def test_other_lines_are_no_claims(self):
        calls = [yes(), claim(1)] + [wider(1, 1)] * 20 + [claim(1)] * 16
        self.assertEqual(answered(*calls)[-2:], [36, -5])

    def test_forty_literals(self):
        self.assertEqual(answered(yes(), claim(*[1] * 40), claim(*[1] * 39 + [2]))[1:], [1, -2])

    def test_which_refusal_is_told_first(self):
        calls = [yes(), claim(1, -1, 2), claim(0, 1, -1)] + [claim(1)] * 16 + [claim(2), claim(1, -1), claim(-1)]
        self.assertEqual(answered(*calls)[1:3], [-2, -2])
        self.assertEqual(answered(*calls)[-3:], [-2, -1, -5])

    def test_refused_claims_take_no_number(self):
        self.assertEqual(answered(yes(), claim(2), claim(1, -1), claim(1), drop(2)), [1, -2, -1, 1, -3])


class ThreeHundredLines(unittest.TestCase):
    """More calls than are handed in: by these calls alone, else so many lines don't come."""

    def full(self):
        return [yes(), claim(1)] + [wider(1, 1)] * 299

    def test_the_three_hundredth_and_the_next(self):
        calls = self.full() + [claim(1), wider(1, 1), chain([1], 1), joined(1, 1, 1)]
        self.assertEqual(answered(*calls)[-5:], [300, -5, -5, -5, -6])

    def test_three_hundredth_is_a_claim(self):
        calls = [yes(), claim(1)] + [wider(1, 1)] * 298 + [claim(1), claim(1), drop(300), claim(-1), claim(1)]
        self.assertEqual(answered(*calls)[-5:], [300, -5, 1, 301, -5])

    def test_three_hundredth_by_each_way(self):
        begin = [yes(), bound(1, 0, 0), claim(1), claim(-1)] + [wider(1, 1)] * 297
        for call in (wider(1, 1), chain([1], 1), joined(1, 2, 1), bounds(2, -2)):
            self.assertEqual(answered(*begin, call, call)[-3:], [299, 300, -5])

    def test_lines_that_went_make_room(self):
        calls = [yes(), claim(1), claim(-1)] + [wider(1, 1)] * 298
        calls += [wider(1, 1), drop(2), wider(1, 1), wider(1, 1), drop(1), claim(1)]
        self.assertEqual(answered(*calls)[-6:], [-5, 1, 301, -5, 300, 302])

    def test_which_refusal_is_told_first(self):
        calls = self.full() + [claim(2), claim(1, -1), wider(1, 2), wider(301, 1), wider(1), bounds(), claim(-1)]
        self.assertEqual(answered(*calls)[-7:], [-2, -1, -2, -3, -6, -6, -5])

    def test_both_limits_at_once(self):
        calls = [yes()] + [claim(1)] * 16 + [wider(1, 1)] * 284 + [claim(1), wider(1, 1), drop(16), claim(1)]
        self.assertEqual(answered(*calls)[-5:], [300, -5, -5, 1, 301])


if __name__ == "__main__":
    unittest.main()
