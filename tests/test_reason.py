"""Points 2 and 7: reason: the fewest literals that can't be so together by differences, and what is refused."""

import itertools
import unittest

from tests.helper import answered, bound, claim, last_told, reason, start, told, yes

# Atom 1 is a question; of unknown 1: 2 at most 0, 3 at most -1, 4 at least 1.
FOUR = [yes(), bound(1, 0, 0), bound(1, 0, -1), bound(0, 1, -1)]


class Reason(unittest.TestCase):
    def check(self, literals, found):
        answer = [0] if found is None else [1, len(found)] + found
        self.assertEqual(last_told(*FOUR, reason(*literals)), answer)

    def test_no_literals(self):
        self.check([], None)
        self.assertEqual(last_told(reason()), [0])

    def test_they_can_be(self):
        self.check([2], None)
        self.check([-2], None)
        self.check([2, 3], None)
        self.check([2, -3, -4], None)
        self.check([-2, 4, -3], None)

    def test_two(self):
        self.check([2, 4], [2, 4])
        self.check([3, -2], [3, -2])
        self.check([2, -2], [2, -2])
        self.check([-4, 4], [-4, 4])

    def test_in_the_rows_order(self):
        self.check([4, 2], [4, 2])
        self.check([-2, 3], [-2, 3])
        self.check([-2, 2], [-2, 2])

    def test_questions_count_for_nothing(self):
        self.check([1], None)
        self.check([1, -1], None)
        self.check([1, -1, 2, 3], None)
        self.check([1, 4, -1, 1, 2, -1], [4, 2])

    def test_first_choice_of_as_few(self):
        # 2 and 4, 3 and 4 can't be; the earlier place at the first at which two choices differ counts.
        self.check([2, 3, 4], [2, 4])
        self.check([3, 2, 4], [3, 4])
        self.check([4, 3, 2], [4, 3])
        self.check([4, 2, 3], [4, 2])
        self.check([3, 2, -2, 4], [3, -2])
        self.check([1, 2, 3, 4, -2, -4], [2, 4])

    def test_first_place_counts_more_than_an_early_last_one(self):
        # 3 and -3 are both ahead of the last place, but 2, with 4 at the last, is the first of all.
        self.check([2, 3, -3, 4], [2, 4])
        self.check([-4, 3, -3, 4], [-4, 4])

    def test_told_twice(self):
        self.check([2, 2], None)
        self.check([2, 2, 4, 4], [2, 4])
        self.check([2, 2, -2], [2, -2])
        self.check([3, 3, 2, 2, -2, -2], [3, -2])


class Fewest(unittest.TestCase):
    def test_two_at_the_end_ahead_of_three_at_the_beginning(self):
        calls = [bound(1, 2, 0), bound(2, 3, 0), bound(3, 1, -1), bound(1, 3, 0)]
        self.assertEqual(last_told(*calls, reason(1, 2, 3)), [1, 3, 1, 2, 3])
        self.assertEqual(last_told(*calls, reason(1, 2, 3, 4)), [1, 2, 3, 4])
        self.assertEqual(last_told(*calls, reason(4, 2, 1, 3)), [1, 2, 4, 3])

    def test_round_all_unknowns(self):
        calls = [start(4), bound(1, 0, 1), bound(2, 1, 2), bound(3, 2, 3), bound(4, 3, 4), bound(0, 4, -11)]
        self.assertEqual(last_told(*calls, reason(1, 2, 3, 4, 5)), [1, 5, 1, 2, 3, 4, 5])
        self.assertEqual(last_told(*calls, reason(5, 1, 3, 2, 4)), [1, 5, 5, 1, 3, 2, 4])
        self.assertEqual(last_told(*calls, reason(1, 2, 4, 5)), [0])
        self.assertEqual(last_told(*calls[:-1], bound(0, 4, -10), reason(1, 2, 3, 4, 5)), [0])

    def test_rounds_that_add_up_but_are_not_needed(self):
        # Two rounds of two: only one of them can't be.
        calls = [start(4), bound(1, 2, 5), bound(2, 1, 5), bound(3, 4, 0), bound(4, 3, -1)]
        self.assertEqual(last_told(*calls, reason(1, 2, 3, 4)), [1, 2, 3, 4])
        self.assertEqual(last_told(*calls, reason(4, 1, 3, 2)), [1, 2, 4, 3])

    def test_below_0_in_sum_but_no_round(self):
        calls = [bound(1, 2, -9), bound(1, 3, -9), bound(2, 3, -9)]
        self.assertEqual(last_told(*calls, reason(1, 2, 3)), [0])

    def test_all_that_is_left_out_can_be(self):
        # Held against its words: each choice of as many or fewer that is ahead of it can be.
        atoms = [(1, 2, 0), (2, 3, -1), (3, 1, 0), (0, 1, 2), (2, 0, -3), (3, 0, 1), (1, 3, -2), (0, 2, -1)]
        calls = [bound(*atom) for atom in atoms]
        for signs in itertools.product((1, -1), repeat=8):
            row = [sign * k for k, sign in enumerate(signs, start=1)]
            answer = last_told(*calls, reason(*row))
            choices = [choice for size in range(1, 5) for choice in itertools.combinations(row, size)]
            given = told(*calls, *[reason(*choice) for choice in choices])[8:]
            wrong = [list(choice) for choice, one in zip(choices, given) if one != [0]]
            self.assertEqual(answer, [1, len(wrong[0])] + wrong[0] if wrong else [0])


class Refused(unittest.TestCase):
    def test_literal_of_no_atom(self):
        calls = FOUR + [reason(5), reason(-5), reason(0), reason(2, 4, 5), reason(2147483647), reason(-2147483648)]
        self.assertEqual(answered(*calls)[4:], [-2] * 6)
        self.assertEqual(last_told(reason(1)), [-2])

    def test_more_than_eight(self):
        self.assertEqual(last_told(*FOUR, reason(2, 3, -2, 4, 1, -1, -3, -4)), [1, 2, 2, -2])
        self.assertEqual(last_told(*FOUR, reason(2, 3, -2, 4, 1, -1, -3, -4, 2)), [-1])
        self.assertEqual(last_told(*FOUR, reason(*[2] * 8)), [0])
        self.assertEqual(last_told(*FOUR, reason(*[2] * 9)), [-1])
        self.assertEqual(last_told(*FOUR, reason(*[1] * 40)), [-1])

    def test_literal_of_no_atom_is_told_first(self):
        self.assertEqual(last_told(*FOUR, reason(*[2] * 8, 5)), [-2])
        self.assertEqual(last_told(*FOUR, reason(0, *[2] * 39)), [-2])

    def test_it_changes_nothing(self):
        calls = FOUR + [reason(2, 4), reason(9), reason(*[1] * 9), claim(2), reason(2, 4), yes()]
        self.assertEqual(told(*calls)[4:], [[1, 2, 2, 4], [-2], [-1], [1], [1, 2, 2, 4], [5]])


if __name__ == "__main__":
    unittest.main()
