"""The interface over all calls: what each answers, refusals anywhere, nothing kept, nothing printed or nested deep."""

import contextlib
import inspect
import io
import sys
import unittest

from clauseproofs.book import answers
from tests.helper import LONG, back, bound, bounds, came, chain, claim, decide, drop, in_one_list, joined, judge, mark
from tests.helper import prove, reason, rests, show, start, step, told, wider, yes
from tests.test_interface import Frozen

# Each call with what it answers in a book of which the calls before it are the story.
STORY = [
    (start(2), [2]), (bound(1, 0, 0), [1]), (yes(), [2]), (bound(1, 0, -1), [3]),
    (decide(), [1, 3, 0, 0, 0, 2, 1, 0]), (claim(-1, 2), [1]), (claim(-2), [2]), (claim(1), [3]), (mark(), [1]),
    (decide(), [0]), (prove(), [5, 2]), (show(4), [2, 3, 1, 2, 2, 1, -1]), (show(5), [2, 3, 3, 4, 1, 0]),
    (rests(5), [3, 1, 2, 3]), (came(4), [3, 1, 2, 4]), (drop(3), [2]), (claim(3), [6]), (mark(), [2]),
    (judge(step(1, [], 1, -3), step(2, [7, 4, 1], -3), step(2, [6, 8, 3])), [1, 1]), (prove(), [9, 3]),
    (came(9), [7, 1, 2, 4, 6, 7, 8, 9]), (rests(9), [3, 1, 2, 6]), (reason(2, 3, -1, 1), [1, 2, 3, -1]),
    (back(), [7, 3]), (yes(), [4]), (wider(7, 4, -3, 1), [10]), (back(), [5, 2]), (show(7), [1, 0, 2, 1, -3]),
    (came(8), [-3]), (prove(), [11, 1]), (chain([3, 4]), [12]), (drop(2), [4]),
    (decide(), [1, 3, 1, 1, 0, 2, 0, 0]),
]

# Refused wherever they stand in the story behind its first call.
REFUSED = [
    (start(5), -1), (bound(3, 0, 0), -1), (claim(9), -2), (bounds(0), -2), (joined(1, 2, 1, 5), -2), (wider(40), -3),
    (chain([40]), -3), (drop(40), -3), (show(0), -3), (show(40), -3), (rests(0), -3), (rests(40), -3), (came(0), -3),
    (came(40), -3), (judge(step(3, [1], 5)), -2), (judge(step(1, []), step(1, [], 0)), -2), (reason(5), -2),
    (reason(0), -2), (reason(*[1] * 8, 5), -2),
]

# Each a row of calls that leaves all as it was, wherever it stands in the story.
WITHOUT_TRACE = [[decide()], [reason()], [judge()], [judge(step(1, []), step(4, [1]))], [mark(), back()]]


def calls_of(story):
    return [call for call, answer in story]


def answers_of(story):
    return [answer if isinstance(answer, list) else [answer] for call, answer in story]


class Story(unittest.TestCase):
    def test_as_it_is_told(self):
        self.assertLessEqual(len(STORY), 40)
        self.assertEqual(told(*calls_of(STORY)), answers_of(STORY))

    def test_each_call_alone(self):
        self.assertEqual(answers([9]), [1, 1])
        self.assertEqual(answers([10]), [1, -7])
        self.assertEqual(answers([11]), [6, 1, 0, 3, 0, 0, 0])
        self.assertEqual(answers([12]), [1, -8])
        self.assertEqual(answers([13, 1]), [1, -3])
        self.assertEqual(answers([14, 1]), [1, -3])
        self.assertEqual(answers([15, 1]), [1, -3])
        self.assertEqual(answers([16, 0]), [2, 1, 0])
        self.assertEqual(answers([16, 2, 1, 0]), [2, 0, 0])
        self.assertEqual(answers([17, 0]), [1, 0])
        self.assertEqual(answers([17, 1, 1]), [1, -2])

    def test_several_calls_written_out(self):
        handed = [
            9, 1, 3, 1, 1, 3, 1, -1, 11, 12, 13, 3, 14, 3, 15, 3,
            16, 12, 2, 1, 2, 1, 0, 4, 3, 3, 1, 2, 1, 1,
            17, 2, 1, -1, 10, 10,
        ]
        self.assertEqual(answers(handed), [
            1, 1, 1, 1, 1, 1, 1, 2, 1, 0, 2, 3, 1, 6, 2, 3, 1, 2, 1, 0, 3, 2, 1, 2, 4, 3, 1, 2, 3,
            2, 1, 0, 1, 0, 2, 0, 0, 1, -7,
        ])

    def test_any_call_is_first(self):
        for call, answer in REFUSED:
            # At the beginning u is 3, so that the bound is none that is refused.
            if call != bound(3, 0, 0):
                self.assertEqual(answers(call + [1]), [1, answer, 1, 1])

    def test_a_list_of_whole_numbers(self):
        given = answers(in_one_list(calls_of(STORY + REFUSED)))
        self.assertIs(type(given), list)
        self.assertEqual({type(number) for number in given}, {int})


class AsItWas(unittest.TestCase):
    def test_after_a_refusal(self):
        for at in range(1, len(STORY) + 1):
            for refused in REFUSED:
                story = STORY[:at] + [refused] + STORY[at:]
                self.assertEqual(told(*calls_of(story)), answers_of(story))

    def test_after_many_refusals(self):
        story = [STORY[0]]
        for part in STORY[1:]:
            story += REFUSED + [part] + REFUSED
        self.assertEqual(told(*calls_of(story)), answers_of(story))

    def test_after_calls_that_leave_no_trace(self):
        for at in range(1, len(STORY) + 1):
            for between in WITHOUT_TRACE:
                given = told(*calls_of(STORY[:at]), *between, *calls_of(STORY[at:]))
                self.assertEqual(given[at + len(between):], answers_of(STORY[at:]))

    def test_full_marks(self):
        # Eight marks at one place: the ninth changes nothing.
        story = [(start(1), 1)] + [(mark(), k) for k in range(1, 9)] + [(mark(), -5), (yes(), 1), (mark(), -5)]
        story += [(back(), [0, 0])] * 8 + [(back(), -7), (yes(), 1)]
        self.assertEqual(told(*calls_of(story)), answers_of(story))


class NothingKept(unittest.TestCase):
    def setUp(self):
        self.handed = in_one_list(calls_of(STORY + REFUSED))

    def test_what_is_handed_in_is_not_changed(self):
        before = list(self.handed)
        self.assertEqual(answers(Frozen(self.handed)), answers(self.handed))
        self.assertEqual(self.handed, before)

    def test_second_time_is_as_the_first(self):
        first = answers(self.handed)
        answers(in_one_list([mark(), yes(), claim(1), claim(-1), prove(), mark()]))
        self.assertEqual(answers(back()), [1, -7])
        self.assertEqual(answers(show(1)), [1, -3])
        self.assertEqual(answers(decide()), [6, 1, 0, 3, 0, 0, 0])
        self.assertEqual(answers(self.handed), first)

    def test_nothing_is_printed(self):
        out = io.StringIO()
        with contextlib.redirect_stdout(out), contextlib.redirect_stderr(out):
            answers(self.handed)
        self.assertEqual(out.getvalue(), "")


class NothingNestedDeep(unittest.TestCase):
    def with_few_calls_within(self, *calls):
        usual = sys.getrecursionlimit()
        sys.setrecursionlimit(len(inspect.stack()) + 60)
        try:
            return told(*calls)
        finally:
            sys.setrecursionlimit(usual)

    def test_lines_of_one_another(self):
        calls = [yes(), claim(1)] + [wider(k, 1) for k in range(1, 300)]
        given = self.with_few_calls_within(*calls, rests(300), came(300), mark(), drop(1), back(), decide())
        self.assertEqual(given[301:], [
            [1, 1], [300] + list(range(1, 301)), [1], [300], [300, 0], [1, 1, 1, 3, 0, 0, 0],
        ])

    def test_steps_of_one_another(self):
        steps = [step(3, [k], 1) for k in range(1, 176)]
        self.assertEqual(self.with_few_calls_within(yes(), claim(1), judge(*steps))[2], [1, 0])

    def test_a_long_proof(self):
        self.assertEqual(self.with_few_calls_within(*LONG, prove(), decide())[23:], [[128, 114], [0]])


class LongestList(unittest.TestCase):
    def test_all_that_may_be_handed_in(self):
        # 40 calls, 38 of them with steps of 700 numbers each.
        steps = [step(3, [k], 1) for k in range(1, 176)]
        calls = [yes(), claim(1)] + [judge(*steps)] * 38
        self.assertLessEqual(len(in_one_list(calls)), 28200)
        self.assertEqual(told(*calls)[2:], [[1, 0]] * 38)


if __name__ == "__main__":
    unittest.main()
