"""Point 6: prove: the house's proof, what it writes, and what is refused."""

import unittest

from tests.helper import LONG, OVER, answered, back, bound, bounds, came, chain, claim, decide, drop, judge, last_told
from tests.helper import mark, prove, rests, show, start, step, step_shown, told, wider, yes

# Of unknown 1: atom 1 at most 0, atom 2 at most -1.
BOTH = [bound(1, 0, 0), bound(1, 0, -1), claim(-1), claim(2)]


class Proofs(unittest.TestCase):
    def check(self, calls, answer, lines):
        """The lines that are new stand behind those of the calls."""
        first = answer[0] - len(lines) + 1
        given = told(*calls, prove(), *[show(k) for k in range(first, first + len(lines) + 1)])
        self.assertEqual(given[len(calls)], answer)
        self.assertEqual(given[len(calls) + 1:], lines + [[-3]])

    def test_two_claims(self):
        self.check([yes(), claim(1), claim(-1)], [3, 1], [[2, 3, 1, 2, 1, 0]])

    def test_the_line_with_the_atom_is_named_first(self):
        self.check([yes(), claim(-1), claim(1)], [3, 1], [[2, 3, 2, 1, 1, 0]])

    def test_by_differences(self):
        self.check(BOTH, [5, 3], [[1, 0, 2, 1, -2], [2, 3, 2, 3, 2, 1, 1], [2, 3, 4, 1, 1, 0]])

    def test_all_of_two_questions(self):
        self.check([yes(), yes(), claim(1, 2), claim(1, -2), claim(-1, 2), claim(-1, -2)], [7, 3], [
            [2, 3, 1, 2, 2, 1, 1], [2, 3, 3, 4, 2, 1, -1], [2, 3, 5, 6, 1, 0],
        ])

    def test_a_claim_without_literals(self):
        self.check([claim()], [1, 0], [[0, 0, 0]])
        self.check([yes(), claim()], [1, 0], [[0, 0, 0]])
        self.assertEqual(last_told(yes(), claim(1), claim(-1), claim(), prove()), [3, 0])

    def test_a_line_without_the_atom_is_it_at_once(self):
        # Atom 1 is in no claim: the second side isn't gone through.
        self.check([yes(), yes(), claim(2), claim(-2)], [3, 1], [[2, 3, 1, 2, 2, 0]])

    def test_a_line_of_the_second_side_without_the_atom(self):
        # What came of the first side is new all the same, though the last line doesn't come of it.
        calls = [yes(), yes(), claim(1, 2), claim(1, -2), claim(2), claim(-2)]
        self.check(calls, [6, 2], [[2, 3, 1, 2, 2, 1, 1], [2, 3, 3, 4, 2, 0]])
        self.assertEqual(last_told(*calls, prove(), came(6)), [3, 3, 4, 6])

    def test_reason_in_the_order_of_the_atoms(self):
        # At most 0, at most -1, at least 1: of both pairs that can't be 1 and 3 are the first.
        calls = [bound(1, 0, 0), bound(1, 0, -1), bound(0, 1, -1), claim(1), claim(2), claim(3)]
        self.check(calls, [6, 3], [[1, 0, 2, -1, -3], [2, 3, 3, 4, 3, 1, -1], [2, 3, 1, 5, 1, 0]])

    def test_reason_of_the_fewest(self):
        # Three go round, or the last two.
        calls = [bound(1, 2, 0), bound(2, 3, 0), bound(1, 3, 0), bound(3, 1, -1)]
        calls += [claim(1), claim(2), claim(3), claim(4)]
        self.check(calls, [7, 3], [[1, 0, 2, -3, -4], [2, 3, 4, 5, 4, 1, -3], [2, 3, 3, 6, 3, 0]])

    def test_a_claim_ahead_of_differences(self):
        calls = BOTH + [claim(1, -2)]
        self.check(calls, [5, 2], [[2, 3, 2, 3, 2, 1, 1], [2, 3, 4, 1, 1, 0]])

    def test_the_first_of_several_claims(self):
        self.check([yes(), claim(1), claim(1), claim(-1), claim(-1)], [5, 1], [[2, 3, 1, 3, 1, 0]])

    def test_a_later_claim_that_is_broken_earlier(self):
        # By -1 alone line 2 is broken, line 1 isn't yet.
        self.check([yes(), yes(), claim(1, 2), claim(1), claim(-1), claim(-2)], [5, 1], [[2, 3, 2, 3, 1, 0]])

    def test_a_proof_of_claims_that_went_is_none(self):
        calls = [yes(), claim(1), claim(-1), prove(), drop(1), prove(), claim(1), prove(), show(5)]
        self.assertEqual(told(*calls)[3:], [[3, 1], [2], [-8], [4], [5, 1], [2, 3, 4, 2, 1, 0]])

    def test_eight_atoms(self):
        calls = [yes()] * 8 + [claim(*[-k for k in range(1, 9)])] + [claim(k) for k in range(1, 9)]
        given = told(*calls, prove(), rests(17), came(17), show(10), show(17))
        self.assertEqual(given[17:19], [[17, 8], [9] + list(range(1, 10))])
        self.assertEqual(given[19], [17] + list(range(1, 18)))
        self.assertEqual(given[20:], [[2, 3, 9, 1, 8, 7, -1, -2, -3, -4, -5, -6, -7], [2, 3, 2, 16, 1, 0]])

    def test_round_all_unknowns(self):
        calls = [start(4), bound(1, 0, 1), bound(2, 1, 2), bound(3, 2, 3), bound(4, 3, 4), bound(0, 4, -11)]
        calls += [claim(k) for k in range(1, 6)]
        given = told(*calls, prove(), show(6), rests(11))
        self.assertEqual(given[11:], [[11, 6], [1, 0, 5, -1, -2, -3, -4, -5], [5, 1, 2, 3, 4, 5]])


class LinesThatAreThere(unittest.TestCase):
    def test_a_second_time(self):
        self.assertEqual(told(*BOTH, prove(), prove(), prove(), claim(1))[4:], [[5, 3], [5, 0], [5, 0], [6]])

    def test_by_differences(self):
        given = told(*BOTH, bounds(1, -2), prove(), show(4), show(5))
        self.assertEqual(given[5:], [[5, 2], [2, 3, 2, 3, 2, 1, 1], [2, 3, 4, 1, 1, 0]])

    def test_whatever_its_way(self):
        # Line 4, by a chain, has the clause that both put together would have.
        calls = BOTH + [bounds(1, -2), chain([2, 3], 1), prove(), show(5)]
        self.assertEqual(told(*calls)[6:], [[5, 1], [2, 3, 4, 1, 1, 0]])

    def test_the_first_of_them(self):
        calls = BOTH + [bounds(1, -2), chain([2, 3], 1), chain([2, 3], 1), wider(4, 1), prove(), show(7)]
        self.assertEqual(told(*calls)[8:], [[7, 1], [2, 3, 4, 1, 1, 0]])

    def test_the_first_is_another_once_it_went(self):
        calls = [yes(), yes(), claim(1, 2), claim(1, 2), claim(1, -2), claim(-1), chain([1, 3], 1), chain([2, 3], 1)]
        calls += [drop(1), prove(), show(7)]
        self.assertEqual(told(*calls)[8:], [[2], [7, 1], [2, 3, 6, 4, 1, 0]])

    def test_the_last_one_is_there(self):
        self.assertEqual(last_told(yes(), claim(1), claim(-1), chain([1, 2]), prove()), [3, 0])

    def test_the_last_one_is_there_and_what_leads_to_it_is_new(self):
        calls = [yes(), yes(), claim(1, 2), claim(1, -2), claim(-1), chain([3, 1, 2]), prove(), show(5), show(6)]
        self.assertEqual(told(*calls)[6:], [[4, 1], [2, 3, 1, 2, 2, 1, 1], [-3]])

    def test_a_claim_is_it_though_a_line_ahead_has_its_clause(self):
        # What is broken is a claim; the line for a clause may be any.
        calls = [bound(1, 0, 0), bound(1, 0, -1), bounds(1, -2), claim(1, -2), claim(-1), claim(2), prove(), show(5)]
        self.assertEqual(told(*calls)[6:], [[6, 2], [2, 3, 4, 2, 2, 1, 1]])

    def test_a_wider_clause_is_not_it(self):
        calls = BOTH + [bounds(1, -2, 2), bounds(1, -1, -2), prove(), show(5)]
        self.assertEqual(told(*calls)[6:], [[7, 3], [1, 0, 2, 1, -2]])

    def test_new_ones_are_taken_too(self):
        # The same clause by differences is found on both sides of the questions.
        calls = [yes(), bound(1, 0, 0), bound(1, 0, -1), claim(1, -2), claim(-1, -2), claim(1, 3), claim(-1, 3), prove()]
        given = told(*calls, *[show(k) for k in range(5, 12)])
        self.assertEqual(given[7], [10, 6])
        clauses = [tuple(answer[3 + answer[1]:]) for answer in given[8:14]]
        self.assertEqual(clauses, [(2, -3), (1, 2), (1,), (-1, 2), (-1,), ()])

    def test_numbers_go_on_from_where_they_are(self):
        calls = [yes(), claim(1), claim(1), claim(-1), drop(1), mark(), claim(1), back(), prove(), show(5)]
        self.assertEqual(told(*calls)[7:], [[2, 0], [5, 1], [2, 3, 2, 3, 1, 0]])


class JudgeTakesIt(unittest.TestCase):
    def check(self, calls):
        """The new lines, told as steps ahead of the proof, where their numbers are the same."""
        number, count = last_told(*calls, prove())
        shown = told(*calls, prove(), *[show(k) for k in range(number - count + 1, number + 1)])[-count:]
        steps = [step_shown(answer) for answer in shown]
        self.assertEqual(told(*calls, judge(*steps), judge(*steps[:-1]))[-2:], [[1, 1], [1, 0]])
        # It doesn't need the lines that are written.
        self.assertEqual(last_told(*calls, judge(*steps), prove()), [number, count])

    def test_short_ones(self):
        self.check([yes(), claim(1), claim(-1)])
        self.check(BOTH)
        self.check(BOTH + [bounds(1, -2)])
        self.check([yes(), yes(), claim(1, 2), claim(1, -2), claim(2), claim(-2)])

    def test_of_two_differences_and_questions(self):
        atoms = [yes(), bound(1, 2, 0), bound(2, 3, -1), bound(3, 1, 0), bound(3, 1, 4), yes()]
        self.check(atoms + [claim(1, 2), claim(-1, 2), claim(3, 6), claim(3, -6), claim(4, -5), claim(5)])


class Refused(unittest.TestCase):
    def test_a_world(self):
        self.assertEqual(told(prove(), yes(), prove(), claim(1), prove()), [[-8], [1], [-8], [1], [-8]])
        self.assertEqual(last_told(*BOTH[:3], prove()), [-8])
        self.assertEqual(last_told(*BOTH[:2], BOTH[3], prove()), [-8])

    def test_the_only_world_is_the_last_row(self):
        calls = [yes()] * 8 + [claim(k) for k in range(1, 9)]
        self.assertEqual(told(*calls, prove(), claim(-8), prove())[16:], [[-8], [9], [10, 1]])

    def test_a_world_leaves_all_as_it_was(self):
        # On the way to the world lines were found that are not written.
        calls = [yes(), yes(), yes(), claim(1, 2), claim(1, -2), prove(), show(3), claim(-3), decide()]
        self.assertEqual(told(*calls)[5:], [[-8], [-3], [3], [1, 3, 1, 0, 0, 3, 0, 0, 0]])

    def test_a_world_or_a_proof(self):
        for claims in ([claim(1)], [claim(1), claim(-1)], [claim(2), claim(-1)], [claim(-2), claim(1, 2), claim(-1)]):
            calls = [yes(), yes()] + claims
            decided, proved = told(*calls, decide(), prove())[-2:]
            self.assertEqual(decided == [0], len(proved) == 2)
            self.assertEqual(decided[0] == 1, proved == [-8])


class ThreeHundredLines(unittest.TestCase):
    """More calls than are handed in, to come just to the limit."""

    def filled(self, count, *claims):
        return [yes(), yes(), *claims] + [wider(1, 1)] * (count - len(claims))

    def test_up_to_300(self):
        given = told(*self.filled(299, claim(1), claim(-1)), prove(), prove(), wider(1, 1))
        self.assertEqual(given[-3:], [[300, 1], [300, 0], [-5]])

    def test_301(self):
        given = told(*self.filled(300, claim(1), claim(-1)), prove(), show(301), drop(2), claim(-1), show(301), prove())
        self.assertEqual(given[-6:], [[-5], [-3], [1], [301], [0, 0, 1, -1], [-5]])

    def test_the_first_new_ones_have_room_the_last_has_not(self):
        # Two new lines, or none.
        claims = [claim(1, 2), claim(1, -2), claim(-1)]
        calls = [yes(), yes(), *claims] + [wider(1, 1, 2)] * 296
        self.assertEqual(told(*calls, prove(), show(300), claim(1))[-3:], [[-5], [-3], [300]])
        self.assertEqual(told(*calls[:-1], prove(), show(299))[-2:], [[300, 2], [2, 3, 1, 2, 2, 1, 1]])

    def test_no_new_line_at_300(self):
        calls = self.filled(299, claim(1), claim(-1)) + [chain([1, 2])]
        self.assertEqual(last_told(*calls, prove()), [300, 0])

    def test_a_world_is_told_first(self):
        self.assertEqual(last_told(*self.filled(300, claim(1), claim(1)), prove()), [-8])
        # On the way to the world a line is found that would be the 301st.
        calls = [yes(), yes(), claim(1, 2), claim(1, -2)] + [wider(1, 1, 2)] * 298
        self.assertEqual(told(*calls, prove(), wider(1, 1, 2), decide())[-3:], [[-8], [-5], [1, 2, 1, 0, 3, 0, 0, 0]])


class MoreThanThreeHundredLines(unittest.TestCase):
    def test_a_long_proof(self):
        self.assertEqual(told(*LONG, decide(), prove(), prove(), show(129))[23:], [[0], [128, 114], [128, 0], [-3]])

    def test_no_new_line_but_more_than_300(self):
        # There are more already, so there would be more behind it too.
        calls = [decide(), prove(), prove(), show(311), drop(2), prove()]
        self.assertEqual(told(*OVER, *calls)[32:], [[0], [-5], [-5], [-3], [92], [219, 0]])

    def test_a_world_is_told_first(self):
        # Line 11 is a claim that no other line rests on; 12 is needed.
        self.assertEqual(told(*OVER, drop(11), prove(), drop(12), prove())[32:], [[1], [-5], [73], [-8]])

    def test_fewer_than_300_that_would_be_more(self):
        calls = [drop(10), claim(-5), prove(), show(312), drop(311), prove(), claim(1)]
        self.assertEqual(told(*OVER, *calls)[32:], [[23], [311], [-5], [-3], [1], [317, 6], [318]])


if __name__ == "__main__":
    unittest.main()
