"""The interface: the list that is handed in, the list that is given back, and that nothing is kept."""

import unittest

from clauseproofs.book import answers
from tests.helper import answered, bound, bounds, chain, claim, drop, in_one_list, joined, start, wider, yes

# Each call with what it answers in a book of which the calls before it are the story.
STORY = [
    (start(4), 4), (yes(), 1), (yes(), 2), (bound(1, 2, 3), 3), (bound(2, 1, -4), 4),
    (claim(1, 2), 1), (claim(-1), 2), (claim(3), 3), (claim(4), 4),
    (bounds(-3, -4), 5), (joined(1, 2, 1, 2), 6), (wider(6, 2, -1), 7), (chain([3, 4, 5]), 8),
    (drop(3), 2), (claim(), 9), (drop(1), 3),
]

# Refused wherever they stand in the story behind its first call.
REFUSED = [
    (start(0), -1), (start(5), -1), (bound(1, 1, 0), -1), (bound(5, 0, 0), -1), (bound(0, 5, 0), -1),
    (bound(1, 0, 1001), -1), (bound(1, 0, -1001), -1), (claim(9), -2), (claim(0), -2), (bounds(9), -2),
    (bounds(), -6), (joined(1, 2, 1, 9), -2), (joined(40, 41, 1), -3), (wider(1, 0), -2), (wider(40), -3),
    (chain([1], 9), -2), (chain([40]), -3), (chain([]), -6), (drop(0), -3), (drop(40), -3),
]


class Whole(unittest.TestCase):
    def test_one_call(self):
        self.assertEqual(answers([1]), [1, 1])
        self.assertEqual(answers([0, 2]), [1, 2])
        self.assertEqual(answers([0, 7]), [1, -1])
        self.assertEqual(answers([2, 1, 0, -5]), [1, 1])
        self.assertEqual(answers([3, 0]), [1, 1])
        self.assertEqual(answers([4, 0]), [1, -6])
        self.assertEqual(answers([5, 1, 2, 1, 0]), [1, -3])
        self.assertEqual(answers([6, 1, 0]), [1, -3])
        self.assertEqual(answers([7, 0, 0]), [1, -6])
        self.assertEqual(answers([8, 1]), [1, -3])

    def test_several_calls_written_out(self):
        handed = [
            0, 2,
            1,
            2, 1, 2, 0,
            3, 2, 1, 2,
            3, 1, -1,
            4, 2, 2, -2,
            5, 1, 2, 1, 1, 2,
            6, 4, 2, 2, -1,
            7, 2, 2, 1, 1, 2,
            8, 1,
            1,
        ]
        self.assertEqual(answers(handed), [1, 2, 1, 1, 1, 2, 1, 1, 1, 2, 1, 3, 1, 4, 1, 5, 1, 6, 1, 4, 1, 3])

    def test_numbers_like_calls_in_the_rows(self):
        # Rows whose numbers are calls' numbers too are passed over whole.
        calls = [yes()] * 8 + [claim(1, 2, 3, 4, 5, 6, 7, 8), chain([1, 1, 1], 8, 7, 6, 5, 4, 3, 2, 1), claim(8)]
        self.assertEqual(answered(*calls)[8:], [1, 2, 3])

    def test_story(self):
        self.assertEqual(answered(*[call for call, answer in STORY]), [answer for call, answer in STORY])

    def test_any_call_is_first(self):
        for call, answer in REFUSED:
            self.assertEqual(answers(call + [1]), [1, answer, 1, 1])

    def test_what_is_given_back_is_a_list_of_whole_numbers(self):
        given = answers(in_one_list([call for call, answer in STORY + REFUSED]))
        self.assertIs(type(given), list)
        self.assertEqual({type(number) for number in given}, {int})


class AsItWas(unittest.TestCase):
    def test_after_a_refusal(self):
        for at in range(1, len(STORY) + 1):
            for refused in REFUSED:
                story = STORY[:at] + [refused] + STORY[at:]
                self.assertEqual(answered(*[call for call, answer in story]), [answer for call, answer in story])

    def test_after_many_refusals(self):
        story = [STORY[0]]
        for part in STORY[1:]:
            story += REFUSED + [part] + REFUSED
        self.assertEqual(answered(*[call for call, answer in story]), [answer for call, answer in story])


class Frozen(list):
    """A list that tells of each try to change it."""

    def refuse(self, *rest, **named):
        raise AssertionError("what was handed in was changed")

    __setitem__ = __delitem__ = __iadd__ = __imul__ = refuse
    append = extend = insert = pop = remove = clear = sort = reverse = refuse


class NothingKept(unittest.TestCase):
    def setUp(self):
        self.handed = in_one_list([call for call, answer in STORY + REFUSED])

    def test_what_is_handed_in_is_as_it_was(self):
        before = list(self.handed)
        answers(self.handed)
        self.assertEqual(self.handed, before)

    def test_what_is_handed_in_is_not_changed_for_a_while_either(self):
        self.assertEqual(answers(Frozen(self.handed)), answers(self.handed))

    def test_second_time_is_as_the_first(self):
        first = answers(self.handed)
        self.assertEqual(answers(self.handed), first)
        self.assertEqual(answers(claim(1)), [1, -2])
        self.assertEqual(answers(bound(4, 0, 0) + bound(3, 0, 0)), [1, -1, 1, 1])
        self.assertEqual(answers(drop(1) + yes() + claim(1)), [1, -3, 1, 1, 1, 1])
        self.assertEqual(answers(self.handed), first)

    def test_what_was_given_back_is_the_callers_own(self):
        first = answers(self.handed)
        kept = list(first)
        first.clear()
        self.assertEqual(answers(self.handed), kept)


if __name__ == "__main__":
    unittest.main()
