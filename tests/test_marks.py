"""Point 5: mark and back: what is as it was, what stays, what goes, what is refused."""

import unittest

from tests.helper import OVER, answered, back, bound, bounds, came, chain, claim, decide, drop, joined, judge, last_told
from tests.helper import mark, prove, reason, rests, show, start, step, told, wider, yes


class Marks(unittest.TestCase):
    def test_how_many_there_are(self):
        self.assertEqual(answered(mark(), mark(), mark()), [1, 2, 3])

    def test_eighth_and_ninth(self):
        self.assertEqual(answered(*[mark()] * 9), [1, 2, 3, 4, 5, 6, 7, 8, -5])

    def test_back_makes_room(self):
        self.assertEqual(told(*[mark()] * 9, back(), mark(), mark())[8:], [[-5], [0, 0], [8], [-5]])

    def test_refused_mark_is_none(self):
        calls = [mark()] * 8 + [yes(), mark()] + [back()] * 9
        self.assertEqual(told(*calls)[8:], [[1], [-5]] + [[0, 0]] * 8 + [[-7]])
        # The atom came behind the eighth mark, so it is gone behind the first back, not the second one.
        self.assertEqual(told(*calls[:11], yes())[-1], [1])

    def test_no_mark(self):
        self.assertEqual(told(back(), mark(), back(), back()), [[-7], [1], [0, 0], [-7]])

    def test_refused_back_changes_nothing(self):
        calls = [yes(), claim(1), back(), show(1), yes(), claim(2)]
        self.assertEqual(told(*calls), [[1], [1], [-7], [0, 0, 1, 1], [2], [2]])

    def test_start_takes_the_marks_away(self):
        calls = [mark(), yes(), mark(), start(2), back(), mark(), back(), back()]
        self.assertEqual(told(*calls), [[1], [1], [2], [2], [-7], [1], [0, 0], [-7]])

    def test_refused_start_takes_no_mark_away(self):
        calls = [mark(), yes(), claim(1), start(5), start(0), mark(), back(), back()]
        self.assertEqual(told(*calls)[3:], [[-1], [-1], [2], [1, 0], [0, 0]])

    def test_room_for_marks_is_whole_again_behind_start(self):
        self.assertEqual(answered(*[mark()] * 8, start(1), *[mark()] * 9)[8:], [1, 1, 2, 3, 4, 5, 6, 7, 8, -5])

    def test_drop_leaves_the_marks(self):
        self.assertEqual(told(yes(), claim(1), mark(), drop(1), mark(), back(), back())[3:], [[1], [2], [0, 0], [1, 0]])


class Back(unittest.TestCase):
    def test_claims_since_go(self):
        calls = [yes(), claim(1), mark(), claim(-1), claim(1), back(), show(1), show(2), show(3)]
        self.assertEqual(told(*calls)[5:], [[1, 0], [0, 0, 1, 1], [-3], [-3]])

    def test_lines_since_stay(self):
        calls = [yes(), bound(1, 0, 0), claim(1), claim(-1), mark(), joined(1, 2, 1), wider(1, 1, 2), chain([1, 2])]
        calls += [bounds(2, -2), back(), show(3), show(4), show(5), show(6)]
        self.assertEqual(told(*calls)[9:], [
            [6, 4], [2, 3, 1, 2, 1, 0], [3, 1, 1, 2, 1, 2], [4, 2, 1, 2, 0], [1, 0, 2, -2, 2],
        ])

    def test_a_source_that_is_gone(self):
        calls = [yes(), claim(1), mark(), claim(-1), joined(1, 2, 1), wider(2, -1), chain([1, 2], 1), wider(1, 1)]
        calls += [wider(4, -1), wider(6, 1), back()] + [show(k) for k in range(1, 9)]
        self.assertEqual(told(*calls)[10:], [
            [3, 2], [0, 0, 1, 1], [-3], [-3], [-3], [-3], [3, 1, 1, 1, 1], [-3], [3, 1, 6, 1, 1],
        ])

    def test_a_source_behind_the_broken_one_of_a_chain(self):
        calls = [yes(), claim(1), mark(), claim(-1), chain([1, 2], 1), chain([1, 1], 1), back(), show(3), show(4)]
        self.assertEqual(told(*calls)[6:], [[2, 1], [-3], [4, 2, 1, 1, 1, 1]])

    def test_an_atom_of_the_clause_that_is_gone(self):
        calls = [yes(), claim(1), mark(), yes(), wider(1, 1, 2), wider(1, 1, -2), wider(1, 1, -1), chain([1], 1, 2)]
        calls += [back(), show(2), show(3), show(4), show(5)]
        self.assertEqual(told(*calls)[8:], [[2, 1], [-3], [-3], [3, 1, 1, 2, -1, 1], [-3]])

    def test_an_atom_that_lines_were_put_together_by(self):
        calls = [bound(1, 0, 0), mark(), bound(1, 0, 0), bounds(1, -2), bounds(-1, 2), joined(2, 1, 2, 1, -1)]
        calls += [bounds(1, -1), back(), show(3), show(4)]
        self.assertEqual(told(*calls)[3:], [[1], [2], [3], [4], [1, 1], [-3], [1, 0, 2, -1, 1]])

    def test_an_atom_put_together_by_that_is_not_gone(self):
        calls = [yes(), yes(), claim(1, 2), claim(1, -2), mark(), joined(1, 2, 2, 1), yes(), back(), show(3)]
        self.assertEqual(told(*calls)[7:], [[3, 1], [2, 3, 1, 2, 2, 1, 1]])

    def test_line_numbers_like_atoms_that_are_gone(self):
        # Atoms 2 and 3 go; that sources are called 2 and 3 is nothing to it.
        calls = [yes(), claim(1), claim(1), claim(-1), mark(), yes(), yes(), joined(2, 3, 1), wider(2, 1), back()]
        self.assertEqual(told(*calls, show(4), show(5))[9:], [[5, 2], [2, 3, 2, 3, 1, 0], [3, 1, 2, 1, 1]])

    def test_atoms_are_as_at_the_mark(self):
        calls = [yes(), mark(), bound(1, 0, 0), yes(), back(), claim(2), reason(2), yes(), yes()]
        self.assertEqual(told(*calls)[4:], [[0, 0], [-2], [-2], [2], [3]])

    def test_an_atom_that_comes_then_is_another(self):
        calls = [bound(1, 0, 0), mark(), bound(0, 1, -1), reason(1, 2), back(), bound(0, 1, 0), reason(1, 2), decide()]
        self.assertEqual(told(*calls)[3:], [[1, 2, 1, 2], [0, 0], [2], [0], [1, 2, 0, 1, 3, 1, 0, 0]])

    def test_atoms_make_room(self):
        calls = [yes()] * 7 + [mark(), yes(), yes(), back(), yes(), yes()]
        self.assertEqual(told(*calls)[8:], [[8], [-5], [0, 0], [8], [-5]])

    def test_a_line_dropped_since_is_there_again(self):
        calls = [yes(), claim(1), wider(1, 1), claim(-1), mark(), drop(1), show(1), show(2), back(), show(1), show(2)]
        self.assertEqual(told(*calls)[5:], [[2], [-3], [-3], [3, 0], [0, 0, 1, 1], [3, 1, 1, 1, 1]])

    def test_a_line_that_came_and_went_since_does_not_come_again(self):
        calls = [yes(), claim(1), mark(), wider(1, 1), drop(1), back(), show(1), show(2)]
        self.assertEqual(told(*calls)[4:], [[2], [1, 0], [0, 0, 1, 1], [-3]])

    def test_lines_of_claims_that_stay_beside_one_dropped(self):
        calls = [yes(), claim(1), claim(-1), mark(), drop(1), wider(2, -1), back(), joined(1, 3, 1), came(4)]
        self.assertEqual(told(*calls)[4:], [[1], [3], [3, 1], [4], [4, 1, 2, 3, 4]])

    def test_numbers_of_lines_go_on(self):
        calls = [yes(), claim(1), mark(), claim(1), claim(1), back(), claim(1), mark(), back(), claim(1)]
        self.assertEqual(told(*calls)[5:], [[1, 0], [4], [1], [2, 0], [5]])

    def test_claims_make_room(self):
        calls = [yes()] + [claim(1)] * 15 + [mark(), claim(1), claim(1), back(), claim(1), claim(1)]
        self.assertEqual(told(*calls)[17:], [[16], [-5], [15, 0], [17], [-5]])

    def test_claims_that_are_there_again_take_room(self):
        calls = [yes()] + [claim(1)] * 16 + [mark(), drop(1), drop(2), claim(1), back(), claim(1)]
        self.assertEqual(told(*calls)[18:], [[1], [1], [17], [16, 0], [-5]])

    def test_changes_behind_a_mark_do_not_reach_it(self):
        # Back to the same lines twice: what is done behind the first back leaves the mark before it alone.
        calls = [yes(), claim(1), mark(), mark(), yes(), claim(2), drop(1), back(), yes(), claim(2), drop(1), back()]
        self.assertEqual(told(*calls, show(1), yes())[7:], [[1, 0], [2], [3], [1], [1, 0], [0, 0, 1, 1], [2]])

    def test_lines_that_prove_has_written_stay(self):
        calls = [yes(), claim(1), claim(-1), mark(), prove(), back(), prove(), show(3)]
        self.assertEqual(told(*calls)[4:], [[3, 1], [3, 1], [3, 0], [2, 3, 1, 2, 1, 0]])

    def test_lines_that_prove_has_written_of_a_claim_since_go(self):
        calls = [yes(), claim(1), mark(), claim(-1), prove(), back(), prove(), decide(), rests(3)]
        self.assertEqual(told(*calls)[4:], [[3, 1], [1, 0], [-8], [1, 1, 1, 3, 0, 0, 0], [-3]])

    def test_judge_numbers_on_from_where_they_are(self):
        calls = [yes(), claim(1), mark(), claim(-1), back(), judge(step(3, [1], 1), step(3, [3], 1))]
        self.assertEqual(last_told(*calls), [1, 0])
        self.assertEqual(last_told(*calls[:-1], judge(step(3, [1], 1), step(3, [2], 1))), [0, 1])


class WithinOneAnother(unittest.TestCase):
    STORY = [
        yes(), claim(1), mark(), yes(), claim(2), mark(), wider(1, 1), wider(1, 1, 2), wider(2, 2), yes(), claim(3),
        wider(6, 3), wider(3, 1, 3), wider(3, 1),
    ]

    def shown(self, *more):
        calls = self.STORY + list(more) + [show(k) for k in range(1, 10)]
        return [k for k, answer in enumerate(told(*calls)[-9:], start=1) if answer != [-3]]

    def test_to_the_last_mark(self):
        self.assertEqual(last_told(*self.STORY, back()), [6, 4])
        self.assertEqual(self.shown(back()), [1, 2, 3, 4, 5, 9])

    def test_to_the_first_one(self):
        # Of all lines since the first mark those that stay: also such as came since the last one.
        self.assertEqual(told(*self.STORY, back(), back(), back())[14:], [[6, 4], [3, 2], [-7]])
        self.assertEqual(self.shown(back(), back()), [1, 3, 9])

    def test_atoms_go_mark_by_mark(self):
        self.assertEqual(told(*self.STORY, back(), claim(3), claim(2), back(), claim(2), yes())[15:], [
            [-2], [10], [3, 2], [-2], [2],
        ])

    def test_number_behind_all(self):
        self.assertEqual(last_told(*self.STORY, back(), back(), claim(1)), [10])

    def test_dropped_between_the_marks(self):
        calls = [yes(), claim(1), wider(1, 1), mark(), drop(1), claim(1), mark(), wider(3, 1), drop(3), back()]
        calls += [show(1), show(3), back(), show(1), show(2), show(3)]
        self.assertEqual(told(*calls)[8:], [
            [2], [1, 0], [-3], [0, 0, 1, 1], [2, 0], [0, 0, 1, 1], [3, 1, 1, 1, 1], [-3],
        ])

    def test_dropped_ones_are_there_again_beside_lines_since(self):
        # Line 2 is gone at the last mark and there again at the first; lines 3 and 4 stay beside it.
        calls = [yes(), claim(1), claim(1), mark(), wider(1, 1), drop(2), mark(), wider(3, 1), back(), back()]
        self.assertEqual(told(*calls, came(4), show(2))[8:], [[3, 1], [4, 2], [3, 1, 3, 4], [0, 0, 1, 1]])


class MoreThanThreeHundredLines(unittest.TestCase):
    """Lines of the mark, and lines since that stay: 310 of them behind 32 calls."""

    def test_how_many(self):
        self.assertEqual(told(*OVER)[23:], [
            [128, 114], [1], [92], [219, 91], [2], [92], [310, 91], [218, 91], [310, 182],
        ])

    def test_no_line_is_written(self):
        calls = [claim(1), bounds(1, -1), joined(2, 5, 7, -6, -8), wider(2, -8, 7), chain([2], -8, 7), show(311)]
        self.assertEqual(told(*OVER, *calls)[32:], [[-5]] * 5 + [[-3]])

    def test_what_is_told_ahead_of_it(self):
        calls = [claim(9), claim(1, -1), bounds(0), bounds(1), joined(311, 1, 1), wider(311), wider(1), chain([])]
        self.assertEqual(told(*OVER, *calls)[32:], [[-2], [-1], [-2], [-6], [-3], [-3], [-6], [-6]])

    def test_the_rest_goes_on(self):
        calls = [judge(step(3, [310], *range(1, 9))), mark(), back(), drop(13), claim(1), drop(3), claim(1)]
        given = told(*OVER, *calls)[32:]
        self.assertEqual(given[:4], [[1, 0], [1], [310, 0], [1]])
        # 309 lines are too many still; behind the next drop there is room.
        self.assertEqual((given[4], given[6]), ([-5], [311]))


if __name__ == "__main__":
    unittest.main()
