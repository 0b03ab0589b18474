"""Point 4: show, rests and came."""

import unittest

from tests.helper import answered, back, bound, bounds, came, chain, claim, drop, joined, last_told, mark, prove, rests
from tests.helper import show, start, told, wider, yes

# Atoms 1 to 3 are questions, atom 4 is a bound.
FOUR = [yes(), yes(), yes(), bound(1, 0, 0)]


class Show(unittest.TestCase):
    def check(self, calls, k, answer):
        self.assertEqual(last_told(*FOUR, *calls, show(k)), answer)

    def test_claim(self):
        self.check([claim(1)], 1, [0, 0, 1, 1])
        self.check([claim()], 1, [0, 0, 0])

    def test_clause_by_its_atoms_rising(self):
        self.check([claim(3, -1, 4, -2)], 1, [0, 0, 4, -1, -2, 3, 4])
        self.check([claim(2, 2, -1, 2, -1)], 1, [0, 0, 2, -1, 2])

    def test_of_the_same_atom_the_opposite_first(self):
        self.check([claim(1), wider(1, 2, 1, -1, -2)], 2, [3, 1, 1, 4, -1, 1, -2, 2])

    def test_by_differences(self):
        self.check([bounds(4, -4)], 1, [1, 0, 2, -4, 4])
        self.check([bounds(4, 3, -4, 3)], 1, [1, 0, 3, 3, -4, 4])

    def test_joined(self):
        self.check([claim(3, 2), claim(-2, 1), joined(1, 2, 2, 3, 1)], 3, [2, 3, 1, 2, 2, 2, 1, 3])
        self.check([claim(2), claim(-2), joined(1, 2, 2)], 3, [2, 3, 1, 2, 2, 0])

    def test_wider(self):
        self.check([claim(3), wider(1, 3, -1)], 2, [3, 1, 1, 2, -1, 3])
        self.check([claim(), wider(1)], 2, [3, 1, 1, 0])

    def test_chain(self):
        self.check([claim(3), claim(-3), chain([1, 2])], 3, [4, 2, 1, 2, 0])
        self.check([claim(3), claim(-3), chain([2, 1], 1)], 3, [4, 2, 2, 1, 1, 1])

    def test_chain_as_it_was_told(self):
        # A line twice, and lines behind the broken one.
        self.check([claim(3), claim(-3), chain([1, 1, 2, 2, 1])], 3, [4, 5, 1, 1, 2, 2, 1, 0])

    def test_sixty_lines_of_a_chain(self):
        self.check([claim(3), chain([1] * 60, 3)], 2, [4, 60] + [1] * 60 + [1, 3])

    def test_by_number_where_some_went(self):
        self.check([claim(1), claim(2), claim(3), drop(2), wider(3, 3)], 4, [3, 1, 3, 1, 3])

    def test_no_line(self):
        calls = FOUR + [show(1), show(0), claim(1), show(2), show(0), show(4294967295), drop(1), show(1)]
        self.assertEqual(told(*calls)[4:], [[-3], [-3], [1], [-3], [-3], [-3], [1], [-3]])
        self.assertEqual(last_told(yes(), claim(1), start(3), show(1)), [-3])


class RestsAndCame(unittest.TestCase):
    # Lines 1 to 4 are claims, line 5 is by differences; then several steps.
    LINES = FOUR + [
        claim(1, 2), claim(-1), claim(-2), claim(3), bounds(4, -4),
        joined(1, 2, 1, 2), wider(5, 4, -4, 1), chain([3, 6]), wider(8, 1), chain([8, 4, 5, 7]), wider(4, 3, 1),
    ]

    def test_rests(self):
        expected = [[1], [2], [3], [4], [], [1, 2], [], [1, 2, 3], [1, 2, 3], [1, 2, 3, 4], [4]]
        given = told(*self.LINES, *[rests(k) for k in range(1, 12)])[15:]
        self.assertEqual(given, [[len(claims)] + claims for claims in expected])

    def test_came(self):
        expected = [
            [1], [2], [3], [4], [5], [1, 2, 6], [5, 7], [1, 2, 3, 6, 8], [1, 2, 3, 6, 8, 9],
            [1, 2, 3, 4, 5, 6, 7, 8, 10], [4, 11],
        ]
        given = told(*self.LINES, *[came(k) for k in range(1, 12)])[15:]
        self.assertEqual(given, [[len(lines)] + lines for lines in expected])

    def test_each_once(self):
        calls = FOUR + [claim(1), wider(1, 1), wider(1, 1), chain([2, 3, 1, 2], 1), chain([4, 4, 3], 1)]
        self.assertEqual(told(*calls, rests(5), came(5))[9:], [[1, 1], [5, 1, 2, 3, 4, 5]])

    def test_rising_whatever_order_is_named(self):
        calls = FOUR + [claim(-3), claim(2, 3), claim(-2), chain([3, 1, 2]), joined(2, 3, 2, 3), joined(5, 1, 3)]
        self.assertEqual(told(*calls, rests(4), came(4), rests(6), came(6))[10:], [
            [3, 1, 2, 3], [4, 1, 2, 3, 4], [3, 1, 2, 3], [5, 1, 2, 3, 5, 6],
        ])

    def test_the_atom_of_joined_is_no_source(self):
        calls = FOUR + [claim(1), claim(-3), claim(3), joined(3, 2, 3), claim(2), joined(3, 2, 3)]
        self.assertEqual(told(*calls, rests(6), came(6))[10:], [[2, 2, 3], [3, 2, 3, 6]])

    def test_behind_the_broken_one(self):
        calls = FOUR + [claim(1), claim(2), chain([1, 2], 1)]
        self.assertEqual(told(*calls, rests(3), came(3))[7:], [[2, 1, 2], [3, 1, 2, 3]])

    def test_of_a_proof(self):
        calls = FOUR + [claim(3), claim(1), claim(-1), prove()]
        self.assertEqual(told(*calls, rests(4), came(4))[7:], [[4, 1], [2, 2, 3], [3, 2, 3, 4]])

    def test_behind_back(self):
        calls = FOUR + [claim(1), wider(1, 1), mark(), claim(2), wider(2, 1), drop(1), back(), chain([2, 1], 1)]
        self.assertEqual(told(*calls, rests(5), came(5), rests(4), came(3))[10:], [
            [2, 0], [5], [1, 1], [3, 1, 2, 5], [-3], [-3],
        ])

    def test_no_line(self):
        calls = FOUR + [rests(0), came(0), rests(1), came(1), claim(1), rests(2), came(2), rests(4294967295)]
        self.assertEqual(answered(*calls, came(4294967295))[4:], [-3, -3, -3, -3, 1, -3, -3, -3, -3])
        self.assertEqual(told(*FOUR, claim(1), drop(1), rests(1), came(1))[6:], [[-3], [-3]])

    def test_they_change_nothing(self):
        asked = [show(6), rests(8), came(10), show(12), rests(12), came(12)]
        self.assertEqual(last_told(*self.LINES, *asked, *asked, claim(1)), [12])
        self.assertEqual(told(*self.LINES, *asked)[15:], told(*self.LINES, *asked, *asked)[21:])


if __name__ == "__main__":
    unittest.main()
