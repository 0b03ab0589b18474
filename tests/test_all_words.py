"""Many lists of all calls, held against the document's words written down once more, slowly."""

import copy
import functools
import itertools
import random
import unittest

from tests import helper
from tests.helper import came, rests, show, told
from tests.test_words import Words


@functools.lru_cache(maxsize=None)
def rings(u):
    """Each way round through unknowns, once, as the pairs that it goes through."""
    found = []
    for size in range(2, u + 2):
        for ring in itertools.permutations(range(u + 1), size):
            if ring[0] == min(ring):
                found.append(tuple(zip(ring, ring[1:] + ring[:1])))
    return found


@functools.lru_cache(maxsize=None)
def cannot_be(u, atoms, literals, settled):
    """Whether a way round leads below 0; settled are unknowns' values, 1 first."""
    least = {}
    said = [(atoms[abs(literal) - 1], literal) for literal in literals if atoms[abs(literal) - 1] is not None]
    for (a, b, c), literal in said:
        pair, far = ((a, b), c) if literal > 0 else ((b, a), -c - 1)
        least[pair] = min(far, least.get(pair, far))
    for unknown, value in enumerate(settled, start=1):
        least[unknown, 0] = min(value, least.get((unknown, 0), value))
        least[0, unknown] = min(-value, least.get((0, unknown), -value))
    return any(all(pair in least for pair in ring) and sum(least[pair] for pair in ring) < 0 for ring in rings(u))


class HasWorld(Exception):
    pass


class AllWords(Words):
    def clear(self, u):
        super().clear(u)
        self.marks = []
        self.ways = {}

    def note(self, number, way, named):
        if number > 0:
            self.ways[number] = (way, list(named))
        return number

    def claim(self, *literals):
        return self.note(super().claim(*literals), 0, ())

    def bounds(self, *literals):
        return self.note(super().bounds(*literals), 1, ())

    def joined(self, i, j, a, *literals):
        return self.note(super().joined(i, j, a, *literals), 2, (i, j, a))

    def wider(self, i, *literals):
        return self.note(super().wider(i, *literals), 3, (i,))

    def chain(self, lines, *literals):
        return self.note(super().chain(lines, *literals), 4, lines)

    def ask_mark(self):
        if len(self.marks) >= 8:
            return [-5]
        self.marks.append((tuple(self.atoms), tuple(self.lines.items()), self.came))
        return [len(self.marks)]

    def ask_back(self):
        if not self.marks:
            return [-7]
        atoms, lines, latest = self.marks.pop()
        there = dict(lines)
        for number in range(latest + 1, self.came + 1):
            if number in self.lines:
                clause, sources, is_claim = self.lines[number]
                way, named = self.ways[number]
                used = {abs(literal) for literal in clause} | ({named[2]} if way == 2 else set())
                if not is_claim and used <= set(range(1, len(atoms) + 1)) and set(sources) <= set(there):
                    there[number] = self.lines[number]
        self.atoms, self.lines = list(atoms), there
        return [len(there), len(there) - len(lines)]

    def impossible(self, literals, settled=()):
        return cannot_be(self.u, tuple(self.atoms), frozenset(literals), tuple(settled))

    def claims(self):
        return {number: line[0] for number, line in sorted(self.lines.items()) if line[2]}

    def rows(self):
        for signs in itertools.product((-1, 1), repeat=len(self.atoms)):
            yield [sign * number for number, sign in enumerate(signs, start=1)]

    def ask_decide(self):
        for so in self.rows():
            if all(clause & set(so) for clause in self.claims().values()) and not self.impossible(so):
                settled = []
                while len(settled) < self.u:
                    tries = itertools.chain.from_iterable((far, -far) for far in itertools.count())
                    settled.append(next(value for value in tries if not self.impossible(so, settled + [value])))
                return [1, len(so)] + [int(literal > 0) for literal in so] + [self.u] + settled
        return [0]

    def reason_words(self, literals):
        for size in range(len(literals) + 1):
            for choice in itertools.combinations(literals, size):
                if self.impossible(choice):
                    return list(choice)
        return None

    def ask_reason(self, *literals):
        if self.no_atom(literals):
            return [-2]
        if len(literals) > 8:
            return [-1]
        found = self.reason_words(literals)
        return [0] if found is None else [1, len(found)] + found

    def line_for(self, clause, way, named):
        for number in sorted(self.lines):
            if self.lines[number][0] == clause:
                return number
        self.came += 1
        self.lines[self.came] = (frozenset(clause), tuple(named[:2]), False)
        return self.note(self.came, way, named)

    def house(self, so, i):
        for number, clause in self.claims().items():
            if {-literal for literal in clause} <= set(so):
                return number
        if self.impossible(so):
            return self.line_for({-literal for literal in self.reason_words(so)}, 1, ())
        if i > len(self.atoms):
            raise HasWorld
        first = self.house(so + [-i], i + 1)
        if i not in self.lines[first][0]:
            return first
        second = self.house(so + [i], i + 1)
        if -i not in self.lines[second][0]:
            return second
        both = (self.lines[first][0] - {i}) | (self.lines[second][0] - {-i})
        return self.line_for(both, 2, (first, second, i))

    def ask_prove(self):
        tried = copy.deepcopy(self)
        try:
            found = tried.house([], 1)
        except HasWorld:
            return [-8]
        if len(tried.lines) > 300:
            return [-5]
        new = len(tried.lines) - len(self.lines)
        self.lines, self.ways, self.came = tried.lines, tried.ways, tried.came
        return [found, new]

    def told_clause(self, clause):
        return [len(clause)] + sorted(clause, key=lambda literal: (abs(literal), literal))

    def ask_show(self, k):
        if k not in self.lines:
            return [-3]
        way, named = self.ways[k]
        return [way, len(named)] + named + self.told_clause(self.lines[k][0])

    def ask_rests(self, k):
        if k not in self.lines:
            return [-3]
        found = self.rests(k)
        return [len(found)] + sorted(found)

    def all_came(self, k):
        return {k}.union(*[self.all_came(source) for source in self.lines[k][1]])

    def ask_came(self, k):
        if k not in self.lines:
            return [-3]
        found = self.all_came(k)
        return [len(found)] + sorted(found)

    def step_is_right(self, way, named, clause, known):
        if way == 1:
            return self.impossible([-literal for literal in clause])
        if way == 4:
            false = set(clause)
            for number in named:
                if number not in known:
                    return False
                left = known[number] - false
                if len(left) != 1:
                    return not left
                false |= {-literal for literal in left}
            return False
        lines = [known.get(number) for number in named[:2]]
        if None in lines:
            return False
        if way == 3:
            return lines[0] <= clause
        a = named[2]
        return a in lines[0] and -a in lines[1] and clause == (lines[0] - {a}) | (lines[1] - {-a})

    def ask_judge(self, *steps):
        if any(self.no_atom(literals) for way, named, literals in steps):
            return [-2]
        known = {number: set(line[0]) for number, line in self.lines.items()}
        for right, (way, named, literals) in enumerate(steps):
            if not self.step_is_right(way, named, set(literals), known):
                return [0, right]
            known[self.came + 1 + right] = set(literals)
        return [1, int(bool(steps) and not steps[-1][2])]


WAYS = {"bounds": 1, "joined": 2, "wider": 3, "chain": 4}
LATER = ("mark", "back", "decide", "prove", "show", "rests", "came", "judge", "reason")
NAMES = ("start", "yes", "bound", "claim", "bounds", "joined", "wider", "chain", "drop") + LATER
OFTEN = (0.3, 6, 9, 14, 10, 12, 8, 14, 7, 14, 14, 10, 14, 6, 6, 6, 16, 8)


class Teller:
    """Tells calls, most of them such as the book takes; always the same ones for the same seed."""

    def __init__(self, seed):
        self.dice = random.Random(seed)
        self.words = AllWords()
        self.most_atoms = self.dice.choice((2, 3, 4, 4, 5, 6, 8))
        # Some lists begin with nothing, most with a book in which there is something to do.
        self.first = []
        if self.dice.random() < 0.9:
            self.first = ["start"] if self.dice.random() < 0.6 else []
            self.first += self.dice.choices(("yes", "bound", "bound"), k=self.dice.randint(2, self.most_atoms))
            self.first += ["claim"] * self.dice.randint(2, 10)

    def literals(self, most, least=0):
        count = len(self.words.atoms)
        if count == 0 or self.dice.random() < 0.02:
            return [self.dice.choice((0, 1, -1, count + 1, -count - 1))]
        return [
            self.dice.choice((1, -1)) * self.dice.randint(1, count) for part in range(self.dice.randint(least, most))
        ]

    def line(self):
        if not self.words.lines or self.dice.random() < 0.04:
            return self.dice.randint(0, self.words.came + 1)
        return self.dice.choice(list(self.words.lines))

    def clause(self, k):
        return sorted(self.words.lines[k][0]) if k in self.words.lines else []

    def for_joined(self):
        lines = self.words.lines
        pairs = [(i, j, a) for i in lines for j in lines for a in lines[i][0] if a > 0 and -a in lines[j][0]]
        if not pairs or self.dice.random() < 0.1:
            return (self.line(), self.line(), self.dice.randint(0, 9), *self.literals(4))
        i, j, a = self.dice.choice(pairs)
        clause = set(self.clause(i)) - {a} | set(self.clause(j)) - {-a}
        if self.dice.random() < 0.07:
            clause = clause ^ set(self.literals(1))
        return (i, j, a, *sorted(clause))

    def for_wider(self):
        i = self.line()
        return (i, *self.literals(2), *self.clause(i)[self.dice.choice((0, 0, 0, 0, 1)):])

    def for_chain(self):
        lines = [self.line() for part in range(self.dice.randint(0, 6))]
        return (lines, *self.literals(2), *self.clause(lines[0] if lines else 0)[:self.dice.randint(0, 4)])

    def for_bounds(self):
        if self.dice.random() < 0.3 or not self.words.atoms:
            return self.literals(6)
        found = self.words.reason_words([-literal for literal in self.dice.choice(list(self.words.rows()))])
        return [-literal for literal in found or []] + self.literals(1)

    def for_bound(self):
        a, b = self.dice.sample(range(self.words.u + (self.dice.random() < 0.05) + 1), 2)
        return (a, b if self.dice.random() < 0.97 else a, self.dice.randint(-3, 2))

    def for_claim(self):
        count = len(self.words.atoms)
        if count == 0 or self.dice.random() < 0.1:
            return self.literals(3, 1)
        atoms = self.dice.sample(range(1, count + 1), min(count, self.dice.choice((1, 2, 2, 2, 3))))
        return [self.dice.choice((1, -1)) * atom for atom in atoms]

    def for_judge(self):
        """The proof that prove would write, or lines drawn as if they were written; some of them changed."""
        ahead = copy.deepcopy(self)
        steps = []
        if self.dice.random() < 0.3 and len(ahead.words.ask_prove()) == 2:
            for number in range(self.words.came + 1, ahead.words.came + 1):
                way, named = ahead.words.ways[number]
                steps.append((way, named, tuple(ahead.clause(number))))
        else:
            ahead.dice = self.dice
            for part in range(self.dice.randint(0, 6)):
                name = self.dice.choice(list(WAYS))
                parts = getattr(ahead, "for_" + name)()
                taken = getattr(ahead.words, name)(*parts) > 0
                if taken or self.dice.random() < 0.15:
                    steps.append(self.as_step(name, parts))
        if steps and self.dice.random() < 0.1:
            steps.insert(self.dice.randint(0, len(steps)), (3, [self.line()], tuple(self.literals(2))))
        return [step for step in steps if len(steps) < 60]

    def as_step(self, name, parts):
        parts = list(parts)
        if name == "chain":
            behind = [99] if self.dice.random() < 0.3 else []
            return (4, list(parts[0]) + behind, tuple(parts[1:]))
        count = {"bounds": 0, "joined": 3, "wider": 1}[name]
        return (WAYS[name], parts[:count], tuple(parts[count:]))

    def parts(self, name):
        if name in ("joined", "wider", "chain", "bounds", "bound", "claim", "judge"):
            return getattr(self, "for_" + name)()
        if name in ("drop", "show", "rests", "came"):
            return (self.line(),)
        if name == "start":
            return (self.dice.choice((0, 1, 2, 3, 4, 4, 5)),)
        if name == "reason":
            return self.literals(self.dice.choice((3, 8, 8, 9)))
        return ()

    def name(self):
        if self.first:
            return self.first.pop(0)
        while True:
            name = self.dice.choices(NAMES, OFTEN)[0]
            if name not in ("yes", "bound") or len(self.words.atoms) < self.most_atoms or self.dice.random() < 0.03:
                return name

    def tell(self):
        name = self.name()
        parts = self.parts(name)
        if name in LATER:
            answer = getattr(self.words, "ask_" + name)(*parts)
        else:
            answer = [getattr(self.words, name)(*parts)]
        if name == "judge":
            return helper.judge(*[helper.step(way, named, *literals) for way, named, literals in parts]), answer, name
        return getattr(helper, name)(*parts), answer, name


class ManyLists(unittest.TestCase):
    SEEN = {
        "mark": {(1, 1)}, "back": {(2, 1), (1, -7)}, "prove": {(2, 1), (1, -8)},
        "show": {(2, 1), (1, -3)}, "rests": {(2, 1), (1, -3)}, "came": {(2, 1), (1, -3)},
        "judge": {(2, 1), (2, 0), (1, -2)}, "decide": {(2, 1), (1, 0)},
        "reason": {(2, 1), (1, 0), (1, -2), (1, -1)},
    }

    def check_lines(self, seed, calls, words):
        """Each line holds wherever the claims do that it rests on."""
        numbers = range(1, words.came + 1)
        shown = told(*calls, *[show(k) for k in numbers])[len(calls):]
        rested = told(*calls, *[rests(k) for k in numbers])[len(calls):]
        of = told(*calls, *[came(k) for k in numbers])[len(calls):]
        clauses = {k: set(one[3 + one[1]:]) for k, one in zip(numbers, shown) if one != [-3]}
        self.assertEqual(set(clauses), set(words.lines), seed)
        rows = [set(so) for so in words.rows() if not words.impossible(so)]
        for k in clauses:
            self.assertEqual(shown[k - 1], words.ask_show(k), seed)
            self.assertEqual(rested[k - 1], words.ask_rests(k), seed)
            self.assertEqual(of[k - 1], words.ask_came(k), seed)
            for so in rows:
                if all(clauses[claim] & so for claim in rested[k - 1][1:]):
                    self.assertTrue(clauses[k] & so, (seed, k))

    def test_forty_calls_each(self):
        seen = set()
        stayed = 0
        for seed in range(1500):
            teller = Teller(seed)
            drawn = [teller.tell() for part in range(40)]
            calls = [call for call, answer, name in drawn]
            for given, (call, answer, name) in zip(told(*calls), drawn):
                self.assertEqual(given, answer, (seed, name))
            self.check_lines(seed, calls, teller.words)
            seen |= {(name, (min(len(answer), 2), min(answer[0], 1))) for call, answer, name in drawn}
            stayed += sum(answer[1] for call, answer, name in drawn if name == "back" and len(answer) == 2)
        # What is drawn must reach each answer, else the comparison says less than it seems to.
        for name, kinds in self.SEEN.items():
            self.assertLessEqual({(name, kind) for kind in kinds}, seen)
        self.assertGreater(stayed, 1000)


class WorldOrProof(unittest.TestCase):
    """What can't be, and that alone, is proved; and the judge takes that proof."""

    def check(self, seed):
        dice = random.Random(seed)
        u = dice.randint(1, 4)
        calls = [helper.start(u)]
        count = dice.randint(3, 8)
        for part in range(count):
            a, b = dice.sample(range(u + 1), 2)
            calls.append(helper.yes() if dice.random() < 0.2 else helper.bound(a, b, dice.randint(-3, 3)))
        for part in range(dice.randint(3, 16)):
            atoms = dice.sample(range(1, count + 1), dice.choice((1, 2, 2, 3)))
            calls.append(helper.claim(*[dice.choice((1, -1)) * k for k in atoms]))
        decided, proved = told(*calls, helper.decide(), helper.prove())[-2:]
        self.assertEqual(decided[0] == 0, len(proved) == 2, seed)
        if len(proved) == 2 and proved[1] > 0:
            last = proved[0]
            shown = told(*calls, helper.prove(), *[show(k) for k in range(last - proved[1] + 1, last + 1)])[-proved[1]:]
            steps = [helper.step_shown(one) for one in shown]
            if sum(len(step) for step in steps) <= 700:
                self.assertEqual(told(*calls, helper.judge(*steps))[-1], [1, 1], seed)
        return decided[0], proved

    def test_many_books(self):
        found = [self.check(seed) for seed in range(3000)]
        self.assertGreater(sum(1 for can, proved in found if can == 1), 200)
        self.assertGreater(sum(1 for can, proved in found if can == 0 and proved[1] > 5), 200)


if __name__ == "__main__":
    unittest.main()
