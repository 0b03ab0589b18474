"""Many lists of calls, held against the document's words written down once more, slowly and with sets."""

import itertools
import random
import unittest

from tests.helper import answered, bound, bounds, chain, claim, drop, joined, start, wider, yes


class Words:
    def __init__(self):
        self.clear(3)

    def clear(self, u):
        self.u = u
        self.atoms = []
        self.lines = {}
        self.came = 0

    def start(self, u):
        if u not in (1, 2, 3, 4):
            return -1
        self.clear(u)
        return u

    def yes(self):
        if len(self.atoms) >= 8:
            return -5
        self.atoms.append(None)
        return len(self.atoms)

    def bound(self, a, b, c):
        if not (a <= self.u and b <= self.u and a != b and -1000 <= c <= 1000):
            return -1
        number = self.yes()
        if number > 0:
            self.atoms[-1] = (a, b, c)
        return number

    def no_atom(self, literals):
        return not all(1 <= abs(literal) <= len(self.atoms) for literal in literals)

    def write(self, clause, sources, is_claim):
        if len(self.lines) >= 300:
            return -5
        self.came += 1
        self.lines[self.came] = (frozenset(clause), tuple(sources), is_claim)
        return self.came

    def claim(self, *literals):
        if self.no_atom(literals):
            return -2
        if any(-literal in literals for literal in literals):
            return -1
        if sum(1 for line in self.lines.values() if line[2]) >= 16:
            return -5
        return self.write(literals, (), True)

    def show(self, literals, sources, shown):
        if self.no_atom(literals):
            return -2
        if not set(sources) <= set(self.lines):
            return -3
        if not shown(set(literals), [self.lines[source][0] for source in sources]):
            return -6
        return self.write(literals, sources, False)

    def weight(self, x, y, literals):
        """The least that the literals' opposites allow x to be more than y, in one step."""
        found = []
        for literal in literals:
            atom = self.atoms[abs(literal) - 1]
            if atom is not None and literal < 0 and atom[:2] == (x, y):
                found.append(atom[2])
            if atom is not None and literal > 0 and atom[:2] == (y, x):
                found.append(-atom[2] - 1)
        return min(found, default=None)

    def no_differences(self, literals):
        weights = {pair: self.weight(*pair, literals) for pair in itertools.permutations(range(self.u + 1), 2)}
        for size in range(2, self.u + 2):
            for ring in itertools.permutations(range(self.u + 1), size):
                steps = [weights[pair] for pair in zip(ring, ring[1:] + ring[:1])]
                if None not in steps and sum(steps) < 0:
                    return True
        return False

    def bounds(self, *literals):
        return self.show(literals, (), lambda clause, sources: self.no_differences(clause))

    def joined(self, i, j, a, *literals):
        def shown(clause, sources):
            return a in sources[0] and -a in sources[1] and clause == (sources[0] - {a}) | (sources[1] - {-a})
        return self.show(literals, (i, j), shown)

    def wider(self, i, *literals):
        return self.show(literals, (i,), lambda clause, sources: sources[0] <= clause)

    def chain(self, lines, *literals):
        def shown(clause, sources):
            for source in sources:
                left = source - clause
                if len(left) != 1:
                    return not left
                clause = clause | {-literal for literal in left}
            return False
        return self.show(literals, lines, shown)

    def rests(self, k):
        if self.lines[k][2]:
            return {k}
        return set().union(*[self.rests(source) for source in self.lines[k][1]])

    def drop(self, k):
        if k not in self.lines:
            return -3
        if not self.lines[k][2]:
            return -1
        gone = [number for number in self.lines if k in self.rests(number)]
        for number in gone:
            self.lines.pop(number)
        return len(gone)


FORMS = {
    "start": start, "yes": yes, "bound": bound, "claim": claim, "bounds": bounds,
    "joined": joined, "wider": wider, "chain": chain, "drop": drop,
}


class Teller:
    """Tells calls, most of them such as the book takes; always the same ones for the same seed."""

    def __init__(self, seed):
        self.dice = random.Random(seed)
        self.words = Words()

    def literals(self, most):
        count = len(self.words.atoms)
        if count == 0 or self.dice.random() < 0.02:
            return [self.dice.choice((0, 1, -1, count + 1, -count - 1))]
        return [self.dice.choice((1, -1)) * self.dice.randint(1, count) for part in range(self.dice.randint(0, most))]

    def line(self):
        if not self.words.lines or self.dice.random() < 0.03:
            return self.dice.randint(0, self.words.came + 1)
        return self.dice.choice(list(self.words.lines))

    def clause(self, k):
        return sorted(self.words.lines[k][0]) if k in self.words.lines else []

    def tell_joined(self):
        pairs = [
            (i, j, a) for i in self.words.lines for j in self.words.lines
            for a in self.words.lines[i][0] if a > 0 and -a in self.words.lines[j][0]
        ]
        if not pairs or self.dice.random() < 0.1:
            return (self.line(), self.line(), self.dice.randint(0, 9), *self.literals(4))
        i, j, a = self.dice.choice(pairs)
        clause = set(self.clause(i)) - {a} | set(self.clause(j)) - {-a}
        if self.dice.random() < 0.1:
            clause = clause ^ set(self.literals(1))
        return (i, j, a, *clause)

    def tell_wider(self):
        i = self.line()
        return (i, *self.literals(3), *self.clause(i)[self.dice.choice((0, 0, 0, 1)):])

    def tell_chain(self):
        lines = [self.line() for part in range(self.dice.randint(0, 6))]
        return (lines, *self.literals(3), *self.clause(lines[0] if lines else 0)[:self.dice.randint(0, 3)])

    def tell(self):
        name = self.dice.choices(list(FORMS), (1, 8, 16, 20, 16, 16, 12, 24, 8))[0]
        parts = {
            "start": lambda: (self.dice.choice((0, 1, 2, 3, 4, 4, 4, 5)),),
            "yes": lambda: (),
            "bound": lambda: (self.dice.randint(0, self.words.u), self.dice.randint(0, 4), self.dice.randint(-3, 2)),
            "claim": lambda: self.literals(3),
            "bounds": lambda: self.literals(7),
            "joined": self.tell_joined,
            "wider": self.tell_wider,
            "chain": self.tell_chain,
            "drop": lambda: (self.line(),),
        }[name]()
        return FORMS[name](*parts), getattr(self.words, name)(*parts), name


class ManyLists(unittest.TestCase):
    def test_forty_calls_each(self):
        seen = set()
        for seed in range(600):
            teller = Teller(seed)
            told = [teller.tell() for part in range(40)]
            given = answered(*[call for call, answer, name in told])
            self.assertEqual(given, [answer for call, answer, name in told], seed)
            seen |= {(name, min(answer, 1)) for call, answer, name in told}
        # What is drawn must reach each answer, else the comparison says less than it seems to.
        for name in ("bounds", "joined", "wider", "chain"):
            self.assertLessEqual({(name, -2), (name, -6), (name, 1)}, seen)
        self.assertLessEqual({("joined", -3), ("wider", -3), ("chain", -3), ("drop", -3), ("drop", -1)}, seen)
        self.assertLessEqual({("drop", 1), ("claim", -1), ("claim", -2), ("claim", 1), ("bound", -5)}, seen)


if __name__ == "__main__":
    unittest.main()
