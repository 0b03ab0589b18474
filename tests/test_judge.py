"""Point 2 and the call judge: steps that are shown, the first that isn't, and that nothing is written."""

import unittest

from tests.helper import OVER, back, bound, chain, claim, drop, judge, last_told, mark, show, start, step, told, wider, yes

# Atoms 1 to 3 are questions, atom 4 is a bound; the next line's number is 5.
FOUR = [yes(), yes(), yes(), bound(1, 0, 0), claim(1, 2), claim(-1), claim(-2), claim(3)]


class Judged(unittest.TestCase):
    def check(self, steps, answer):
        self.assertEqual(last_told(*FOUR, judge(*steps)), answer)


class Right(Judged):
    def test_no_steps(self):
        self.check([], [1, 0])
        self.assertEqual(last_told(judge()), [1, 0])
        self.assertEqual(last_told(claim(), judge()), [1, 0])

    def test_one_step_of_each_way(self):
        self.check([step(1, [], 4, -4)], [1, 0])
        self.check([step(2, [1, 2, 1], 2)], [1, 0])
        self.check([step(3, [4], 3, 2)], [1, 0])
        self.check([step(4, [2, 1], 2)], [1, 0])

    def test_the_last_without_literals(self):
        self.check([step(4, [2, 3, 1])], [1, 1])
        self.check([step(2, [1, 2, 1], 2), step(2, [5, 3, 2])], [1, 1])

    def test_one_without_literals_that_is_not_the_last(self):
        self.check([step(4, [2, 3, 1]), step(3, [4], 3)], [1, 0])
        self.check([step(4, [2, 3, 1]), step(3, [4], 3), step(3, [5])], [1, 1])

    def test_steps_that_name_earlier_ones(self):
        steps = [step(2, [1, 2, 1], 2), step(3, [5], 2, 3), step(4, [3, 6], 3), step(4, [7, 5, 3], -3), step(3, [8], -3)]
        self.check(steps, [1, 0])
        self.check(steps + [step(2, [7, 9, 3])], [1, 1])

    def test_written_out(self):
        steps = [1, 2, 4, -4, 2, 1, 2, 1, 1, 2, 3, 6, 2, 2, 1, 4, 2, 6, 3, 0]
        self.assertEqual(last_told(*FOUR, [16, len(steps)] + steps), [1, 1])

    def test_a_literal_told_twice_is_in_it_once(self):
        self.check([step(2, [1, 2, 1], 2, 2, 2), step(2, [5, 3, 2])], [1, 1])
        self.check([step(4, [2, 1], 2, 2)], [1, 0])

    def test_loose_clauses(self):
        self.check([step(3, [4], 3, -3), step(2, [4, 5, 3], 3)], [1, 0])
        self.check([step(3, [4], 3, -3), step(2, [4, 5, 3])], [0, 1])

    def test_without_claims(self):
        self.assertEqual(last_told(bound(1, 0, 0), judge(step(1, [], 1, -1), step(3, [1], 1, -1))), [1, 0])

    def test_many_steps(self):
        # 175 steps, each of which names the one before it: 700 numbers.
        steps = [step(3, [4], 3)] + [step(3, [k], 3) for k in range(5, 179)]
        self.assertEqual(len(judge(*steps)), 702)
        self.check(steps, [1, 0])
        self.check(steps[:-1] + [step(3, [179], 3)], [0, 174])
        self.check(steps[:-1] + [step(3, [178], -3)], [0, 174])

    def test_a_long_chain(self):
        self.check([step(4, [2] * 690 + [3, 1])], [1, 1])


class Wrong(Judged):
    def test_not_shown(self):
        for one in (step(1, [], 4), step(1, []), step(2, [1, 2, 1]), step(2, [2, 1, 1], 2), step(3, [1], 1),
                    step(4, []), step(4, [2, 3]), step(4, [1, 2, 3])):
            self.check([one], [0, 0])
            self.check([step(3, [4], 3), one], [0, 1])

    def test_the_first_that_is_wrong(self):
        right = step(3, [4], 3)
        wrong = step(3, [4], 2)
        self.check([right, right, wrong, right, wrong], [0, 2])
        self.check([wrong, wrong, right], [0, 0])
        self.check([right, right, right, wrong], [0, 3])

    def test_the_last_without_literals_does_not_help(self):
        self.check([step(3, [4], 2), step(4, [2, 3, 1])], [0, 0])

    def test_a_step_that_is_wrong_is_not_there_for_later_ones(self):
        self.check([step(3, [4], 2), step(3, [5], 2)], [0, 0])

    def test_names_itself_or_a_later_one(self):
        self.check([step(3, [5], 3)], [0, 0])
        self.check([step(3, [6], 3), step(3, [4], 3)], [0, 0])
        self.check([step(4, [5])], [0, 0])
        self.check([step(3, [4], 3), step(2, [6, 6, 3])], [0, 1])

    def test_names_a_line_that_there_is_not(self):
        for k in (0, 5, 99, 4294967295):
            self.check([step(3, [k], 3)], [0, 0])
            self.check([step(2, [k, 2, 1], 2)], [0, 0])
            self.check([step(2, [1, k, 1], 2)], [0, 0])
            self.check([step(4, [k, 2, 1], 2)], [0, 0])
            self.check([step(4, [2, k, 1], 2)], [0, 0])

    def test_names_a_line_that_went(self):
        self.assertEqual(last_told(*FOUR, drop(4), judge(step(3, [4], 3))), [0, 0])
        self.assertEqual(last_told(*FOUR, drop(4), judge(step(3, [1], 1, 2), step(3, [5], 1, 2))), [1, 0])

    def test_put_together_by_what_is_no_atom_of_both(self):
        for a in (0, 2, 3, 5, 9, 4294967295):
            self.check([step(2, [1, 2, a], 2)], [0, 0])


class Chains(Judged):
    def test_lines_behind_the_broken_one_need_not_be_there(self):
        self.check([step(4, [2, 3, 1, 99])], [1, 1])
        self.check([step(4, [2, 3, 1, 0, 4294967295, 5])], [1, 1])
        self.check([step(4, [2, 99], -1)], [1, 0])

    def test_nor_are_they_asked(self):
        self.check([step(4, [2, 3, 1, 1, 4])], [1, 1])

    def test_lines_ahead_of_it_must_be_there(self):
        self.check([step(4, [99, 2, 3, 1])], [0, 0])
        self.check([step(4, [2, 3, 99, 1])], [0, 0])

    def test_the_call_chain_wants_all_of_them(self):
        self.assertEqual(told(*FOUR, chain([2, 3, 1, 99]), judge(step(4, [2, 3, 1, 99])))[8:], [[-3], [1, 1]])

    def test_steps_in_a_chain(self):
        self.check([step(4, [2, 1], 2), step(4, [5, 3, 6, 7])], [1, 1])
        self.check([step(4, [2, 1], 2), step(4, [5, 6, 3])], [0, 1])

    def test_more_than_one_left_ahead_of_a_line_that_is_not_there(self):
        self.check([step(4, [1, 99, 2, 3])], [0, 0])


class Refused(Judged):
    def test_literal_of_no_atom(self):
        for literal in (0, 5, -5, 2147483647, -2147483648):
            self.check([step(3, [4], 3, literal)], [-2])
            self.check([step(1, [], literal)], [-2])
        self.assertEqual(last_told(judge(step(1, [], 1))), [-2])

    def test_in_a_later_step(self):
        self.check([step(3, [4], 3), step(3, [4], 3, 5)], [-2])

    def test_behind_a_step_that_is_wrong(self):
        self.check([step(3, [99], 3), step(4, []), step(3, [4], 0)], [-2])

    def test_behind_the_last_that_is_needed(self):
        self.check([step(4, [2, 3, 1]), step(3, [5], 9)], [-2])

    def test_an_atom_that_is_gone(self):
        calls = [yes(), claim(1), mark(), yes(), judge(step(3, [1], 1, 2)), back(), judge(step(3, [1], 1, 2))]
        self.assertEqual(told(*calls)[4:], [[1, 0], [1, 0], [-2]])


class NothingIsWritten(Judged):
    def test_numbers_and_lines(self):
        calls = FOUR + [judge(step(3, [4], 3), step(3, [5], 3)), show(5), show(6), judge(step(3, [5], 3)), claim(1)]
        self.assertEqual(told(*calls)[8:], [[1, 0], [-3], [-3], [0, 0], [5]])

    def test_after_a_wrong_one_and_a_refusal(self):
        calls = FOUR + [judge(step(3, [4], 3), step(3, [4])), judge(step(3, [4], 9)), show(5), wider(4, 3), show(5)]
        self.assertEqual(told(*calls)[8:], [[0, 1], [-2], [-3], [5], [3, 1, 4, 1, 3]])

    def test_numbered_on_from_the_next_lines_number(self):
        calls = FOUR + [claim(1), drop(5), judge(step(3, [4], 3), step(3, [6], 3)), judge(step(3, [4], 3), step(3, [5], 3))]
        self.assertEqual(told(*calls)[10:], [[1, 0], [0, 1]])
        self.assertEqual(last_told(*FOUR, start(3), yes(), claim(1), judge(step(3, [1], 1), step(3, [2], 1))), [1, 0])

    def test_more_lines_than_may_be_written(self):
        self.assertEqual(last_told(*OVER, judge(step(3, [2], -8, 7), step(3, [311], -8, 7))), [1, 0])
        calls = [yes(), claim(1)] + [wider(1, 1)] * 299
        self.assertEqual(last_told(*calls, judge(step(3, [300], 1), step(3, [301], 1))), [1, 0])


if __name__ == "__main__":
    unittest.main()
