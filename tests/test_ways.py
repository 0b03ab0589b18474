"""Points 2 and 3: bounds, joined, wider and chain, shown and not shown, and what they refuse."""

import unittest

from tests.helper import answered, bound, bounds, chain, claim, joined, last, start, wider, yes

# Atoms 1 to 3 are questions, atom 4 is a bound.
FOUR = [yes(), yes(), yes(), bound(1, 0, 0)]


class Bounds(unittest.TestCase):
    def test_shown(self):
        # Not 1 <= 0 and 1 <= -1; so one of their opposites is so.
        self.assertEqual(answered(bound(1, 0, 0), bound(1, 0, -1), bounds(1, -2)), [1, 2, 1])

    def test_not_shown(self):
        calls = [bound(1, 0, 0), bound(1, 0, -1), bounds(-1, 2), bounds(1), bounds(-1), bounds(1, 2), bounds(-1, -2)]
        self.assertEqual(answered(*calls)[2:], [-6, -6, -6, -6, -6])

    def test_without_literals(self):
        self.assertEqual(answered(bounds(), bound(1, 0, 0), bounds()), [-6, 1, -6])

    def test_loose_by_a_bound_is_shown(self):
        self.assertEqual(last(*FOUR, bounds(4, -4)), 1)

    def test_loose_by_a_question_is_not_shown(self):
        self.assertEqual(last(*FOUR, bounds(1, -1)), -6)

    def test_questions_count_for_nothing(self):
        self.assertEqual(answered(*FOUR, bounds(1, -4, 2, 4, -3), bounds(1, 2, 4))[4:], [1, -6])

    def test_more_literals_than_needed(self):
        calls = [bound(1, 0, 0), bound(1, 0, -1), bound(2, 0, 7), bounds(3, 1, -2), bounds(-3, 1, -2)]
        self.assertEqual(answered(*calls)[3:], [1, 2])

    def test_it_rests_on_no_claim_and_is_there_without(self):
        self.assertEqual(last(bound(1, 0, 0), bounds(1, -1), wider(1, -1, 1)), 2)

    def test_literal_of_no_atom(self):
        calls = [bounds(1)] + FOUR + [bounds(4, -4, 5), bounds(4, -4, 0), bounds(-5)]
        self.assertEqual(answered(*calls), [-2, 1, 2, 3, 4, -2, -2, -2])


class Rounds(unittest.TestCase):
    """Bounds that can't be so together by going round several unknowns."""

    def test_round_three(self):
        for c, answer in ((-4, 1), (-3, -6)):
            calls = [bound(1, 2, 1), bound(2, 3, 2), bound(3, 1, c), bounds(-1, -2, -3)]
            self.assertEqual(last(*calls), answer)

    def test_round_with_unknown_0(self):
        for c, answer in ((-6, 1), (-5, -6)):
            calls = [bound(1, 0, 2), bound(2, 1, 3), bound(0, 2, c), bounds(-1, -2, -3)]
            self.assertEqual(last(*calls), answer)

    def test_round_all_five(self):
        for c, answer in ((-11, 1), (-10, -6)):
            calls = [start(4), bound(1, 0, 1), bound(2, 1, 2), bound(3, 2, 3), bound(4, 3, 4), bound(0, 4, c)]
            self.assertEqual(last(*calls, bounds(-1, -2, -3, -4, -5)), answer)
            self.assertEqual(last(*calls, bounds(-5, -3, -1, -2, -4)), answer)

    def test_round_all_five_against_the_order_of_the_bounds(self):
        for c, answer in ((-11, 1), (-10, -6)):
            calls = [start(4), bound(0, 4, c), bound(4, 3, 4), bound(3, 2, 3), bound(2, 1, 2), bound(1, 0, 1)]
            self.assertEqual(last(*calls, bounds(-1, -2, -3, -4, -5)), answer)

    def test_a_long_way_without_a_round(self):
        calls = [start(4), bound(0, 4, -1000), bound(4, 3, -1000), bound(3, 2, -1000), bound(2, 1, -1000)]
        self.assertEqual(last(*calls, bounds(-1, -2, -3, -4)), -6)

    def test_a_bound_that_does_not_hold(self):
        # 1 is more than 3 more than 2, so 2 is at most -4 more than 1: whole numbers.
        for c, answer in ((3, 1), (4, -6)):
            self.assertEqual(last(bound(1, 2, 3), bound(1, 2, c), bounds(1, -2)), answer)

    def test_round_of_bounds_that_do_not_hold(self):
        # Each more than c more: together 0 is more than the sum, and at least 3 more than it.
        for c, answer in ((-2, 1), (-3, -6)):
            calls = [bound(1, 2, 0), bound(2, 0, 0), bound(0, 1, c), bounds(1, 2, 3)]
            self.assertEqual(last(*calls), answer)

    def test_round_of_both(self):
        # 1 <= 2 + 5, 3 > 2 + 6, 3 <= 1 + c.
        for c, answer in ((1, 1), (2, -6)):
            calls = [bound(1, 2, 5), bound(3, 2, 6), bound(3, 1, c), bounds(-1, 2, -3)]
            self.assertEqual(last(*calls), answer)

    def test_two_rounds_apart(self):
        calls = [start(4), bound(1, 2, 0), bound(2, 1, 0), bound(3, 4, 0), bound(4, 3, -1)]
        self.assertEqual(last(*calls, bounds(-1, -2, -3, -4)), 1)
        self.assertEqual(last(*calls, bounds(-1, -2, -3)), -6)

    def test_no_way_back_is_no_round(self):
        calls = [bound(1, 2, -9), bound(1, 3, -9), bound(2, 3, -9), bounds(-1, -2, -3)]
        self.assertEqual(last(*calls), -6)


class Joined(unittest.TestCase):
    def begun(self):
        return FOUR + [claim(1, 2), claim(-1, 3), claim(-1), claim(1)]

    def test_shown(self):
        calls = self.begun() + [joined(1, 2, 1, 2, 3), joined(1, 3, 1, 2), joined(4, 3, 1)]
        self.assertEqual(answered(*calls)[8:], [5, 6, 7])

    def test_order_and_twice_told_do_not_count(self):
        self.assertEqual(last(*self.begun(), joined(1, 2, 1, 3, 2, 3, 3, 2)), 5)

    def test_a_literal_of_both_is_in_it_once(self):
        self.assertEqual(last(*FOUR, claim(1, 2), claim(-1, 2), joined(1, 2, 1, 2)), 3)

    def test_lines_the_wrong_way_round(self):
        self.assertEqual(last(*self.begun(), joined(2, 1, 1, 2, 3)), -6)

    def test_too_many_or_too_few_literals(self):
        calls = self.begun() + [joined(1, 2, 1, 2, 3, 4), joined(1, 2, 1, 2), joined(1, 2, 1, 3), joined(1, 2, 1)]
        calls += [joined(1, 2, 1, 1, 2, 3), joined(1, 2, 1, 2, 3, -1), joined(1, 2, 1, 2, -3)]
        self.assertEqual(answered(*calls)[8:], [-6] * 7)

    def test_atom_that_is_not_in_them(self):
        calls = self.begun() + [joined(1, 2, 2, 1, -1, 3), joined(1, 2, 3, 1, 2, -1), joined(1, 2, 4, 1, 2, -1, 3)]
        self.assertEqual(answered(*calls)[8:], [-6, -6, -6])

    def test_number_of_no_atom(self):
        calls = self.begun() + [joined(1, 2, 0, 2, 3), joined(1, 2, 5, 2, 3), joined(1, 2, 4294967295, 2, 3)]
        self.assertEqual(answered(*calls)[8:], [-6, -6, -6])

    def test_opposites_left_make_it_loose(self):
        self.assertEqual(last(*FOUR, claim(1, 2), claim(-1, -2), joined(1, 2, 1, 2, -2)), 3)
        self.assertEqual(last(*FOUR, claim(1, 2), claim(-1, -2), joined(1, 2, 1)), -6)

    def test_loose_line_keeps_the_opposite(self):
        calls = FOUR + [bounds(4, -4), claim(-4), claim(4)]
        self.assertEqual(answered(*calls, joined(1, 2, 4), joined(1, 2, 4, -4))[7:], [-6, 4])
        self.assertEqual(answered(*calls, joined(3, 1, 4), joined(3, 1, 4, 4))[7:], [-6, 4])

    def test_loose_line_with_itself(self):
        calls = FOUR + [bounds(4, -4), joined(1, 1, 4), joined(1, 1, 4, 4), joined(1, 1, 4, 4, -4)]
        self.assertEqual(answered(*calls)[5:], [-6, -6, 2])

    def test_line_with_itself(self):
        self.assertEqual(last(*self.begun(), joined(1, 1, 1, 2)), -6)

    def test_lines_that_are_not_there(self):
        calls = self.begun() + [joined(0, 2, 1, 2, 3), joined(1, 5, 1, 2, 3), joined(4294967295, 2, 1, 2, 3)]
        calls += [joined(1, 0, 1, 2, 3), joined(9, 9, 9, 2, 3), joined(1, 2, 1, 2, 3)]
        self.assertEqual(answered(*calls)[8:], [-3, -3, -3, -3, -3, 5])

    def test_literal_of_no_atom(self):
        calls = self.begun() + [joined(1, 2, 1, 2, 3, 5), joined(1, 2, 1, 2, 3, 0), joined(9, 9, 9, -5)]
        self.assertEqual(answered(*calls)[8:], [-2, -2, -2])


class Wider(unittest.TestCase):
    def test_shown(self):
        calls = FOUR + [claim(1, -2), wider(1, 1, -2), wider(1, 3, -2, 1, 1), wider(1, 2, 1, -2), wider(3, 1, 3, -2, 4)]
        self.assertEqual(answered(*calls)[4:], [1, 2, 3, 4, 5])

    def test_not_shown(self):
        calls = FOUR + [claim(1, -2), wider(1, 1), wider(1, -2), wider(1), wider(1, 1, 2, 3, 4), wider(1, -1, 2)]
        self.assertEqual(answered(*calls)[5:], [-6] * 5)

    def test_of_a_line_without_literals(self):
        self.assertEqual(answered(*FOUR, claim(), wider(1), wider(1, 2, -2))[4:], [1, 2, 3])

    def test_line_that_is_not_there(self):
        calls = FOUR + [wider(1, 1), claim(1), wider(0, 1), wider(2, 1), wider(1, 1)]
        self.assertEqual(answered(*calls)[4:], [-3, 1, -3, -3, 2])

    def test_literal_of_no_atom(self):
        self.assertEqual(answered(*FOUR, claim(1), wider(1, 1, 5), wider(1, 0, 1), wider(7, -5))[5:], [-2, -2, -2])


class Chain(unittest.TestCase):
    def begun(self):
        """Lines 1 to 6."""
        return FOUR + [claim(1, 2), claim(-1, 3), claim(-2, 3), claim(-3), claim(1, 2, 4), claim()]

    def check(self, call, answer):
        self.assertEqual(last(*self.begun(), call), answer)

    def test_broken_at_the_last(self):
        self.check(chain([4, 2, 3, 1]), 7)
        self.check(chain([2, 3, 1], 3), 7)

    def test_broken_at_the_first(self):
        self.check(chain([4], -3), 7)
        self.check(chain([1], 2, 1), 7)
        self.check(chain([6]), 7)

    def test_broken_early_with_lines_behind(self):
        self.check(chain([4, 5, 1, 1], -3), 7)
        self.check(chain([2, 3, 1, 5, 5], 3), 7)
        self.check(chain([6, 5]), 7)

    def test_ends_unbroken(self):
        self.check(chain([4, 2, 3]), -6)
        self.check(chain([4]), -6)
        self.check(chain([4, 2], 4), -6)

    def test_no_lines(self):
        self.check(chain([]), -6)
        self.check(chain([], 1), -6)
        self.check(chain([], 1, -1), -6)

    def test_more_than_one_literal_left(self):
        self.check(chain([1, 4, 2, 3]), -6)
        self.check(chain([4, 5, 2, 3, 1]), -6)
        self.check(chain([4, 5, 2, 3, 1], 4), -6)
        self.check(chain([2, 6]), -6)

    def test_more_left_though_one_of_them_is_so(self):
        # Line 1 leaves 2 as so; of line 5 then 2 and 4 are left.
        self.check(chain([1, 5, 6], 1), -6)
        self.check(chain([1, 5, 6], 1, 4), 7)

    def test_a_line_twice(self):
        self.check(chain([4, 4, 2, 2, 3, 1, 1]), 7)

    def test_order_of_the_lines_counts(self):
        self.check(chain([1, 2, 3, 4]), -6)
        self.check(chain([4, 3, 1, 2]), 7)

    def test_one_left_makes_its_opposite_known(self):
        self.assertEqual(last(*FOUR, claim(1), claim(-1), chain([1, 2])), 3)
        self.assertEqual(last(*FOUR, claim(1), claim(-1, -2), chain([1, 2], -2)), 3)
        self.assertEqual(last(*FOUR, claim(1), claim(1, -2), chain([1, 2], -2)), -6)

    def test_loose_clause_supposes_both_not_so(self):
        self.check(chain([4], 3, -3), 7)
        self.assertEqual(last(*FOUR, claim(1, 2), claim(-1), chain([1, 2], 1, -1)), 3)
        self.assertEqual(last(*FOUR, claim(1, 2), chain([1], 1, -1)), -6)

    def test_loose_line(self):
        calls = FOUR + [bounds(4, -4), claim(4), claim(-4)]
        self.assertEqual(last(*calls, chain([1, 2, 3])), -6)
        self.assertEqual(last(*calls, chain([2, 1, 3])), 4)
        self.assertEqual(last(*calls, chain([1], 4, -4)), 4)

    def test_bounds_are_not_looked_into(self):
        # 1 <= 0 and 1 > 1 can't be together, but a chain doesn't see it.
        calls = [bound(1, 0, 0), bound(1, 0, 1), claim(1), claim(-2)]
        self.assertEqual(answered(*calls, chain([1, 2]), bounds(-1, 2), chain([1, 2, 3]))[4:], [-6, 3, 4])

    def test_line_that_is_not_there(self):
        self.check(chain([0]), -3)
        self.check(chain([7]), -3)
        self.check(chain([4, 2, 4294967295, 3, 1]), -3)

    def test_line_that_is_not_there_behind_the_broken_one(self):
        self.check(chain([4, 7], -3), -3)
        self.check(chain([6, 0]), -3)

    def test_line_that_is_not_there_is_told_ahead_of_not_shown(self):
        self.check(chain([1, 7]), -3)

    def test_literal_of_no_atom(self):
        self.check(chain([4], -3, 5), -2)
        self.check(chain([4], -3, 0), -2)
        self.check(chain([9], -5), -2)
        self.check(chain([], 0), -2)

    def test_sixty_lines(self):
        self.check(chain([4] * 57 + [2, 3, 1]), 7)
        self.check(chain([4] * 60), -6)
        self.check(chain([4] * 59 + [8]), -3)


class Refusals(unittest.TestCase):
    def test_which_is_told_first(self):
        calls = FOUR + [claim(1, 2), wider(9, 0), wider(9), wider(1), wider(1, 1, 2)]
        self.assertEqual(answered(*calls)[4:], [1, -2, -3, -6, 2])

    def test_refused_lines_take_no_number(self):
        calls = FOUR + [claim(1), bounds(1), bounds(9), joined(1, 1, 1), joined(7, 7, 1), wider(1), wider(2, 1)]
        calls += [chain([1]), chain([2], 1), claim(-1), wider(2, -1)]
        self.assertEqual(answered(*calls)[4:], [1, -6, -2, -6, -3, -6, -3, -6, -3, 2, 3])


if __name__ == "__main__":
    unittest.main()
