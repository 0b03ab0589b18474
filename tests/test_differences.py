"""Bounds that can't be so together, held against all small worlds, and lines against the claims that they rest on."""

import itertools
import unittest

from tests.helper import bound, bounds, chain, claim, joined, last, start, wider, yes

# With two unknowns and bounds of -2 to 1, what can be can be with values this near to 0.
NEAR = range(-9, 10)


def holds(atom, values):
    return values[atom[0]] <= values[atom[1]] + atom[2]


def can_be(atoms, signs):
    """Whether some small world makes each atom so or not so, as its sign says."""
    for world in itertools.product(NEAR, repeat=2):
        values = (0,) + world
        if all(holds(atom, values) == (sign > 0) for atom, sign in zip(atoms, signs)):
            return True
    return False


class AllSmallWorlds(unittest.TestCase):
    def test_two_unknowns_and_0(self):
        places = list(itertools.permutations(range(3), 2))
        for c in itertools.product((-2, 0, 1), repeat=3):
            for chosen in itertools.combinations(places, 3):
                atoms = [(a, b, far) for (a, b), far in zip(chosen, c)]
                for signs in itertools.product((1, -1), repeat=3):
                    clause = [-sign * number for number, sign in enumerate(signs, start=1)]
                    calls = [start(2)] + [bound(*atom) for atom in atoms] + [bounds(*clause)]
                    expected = -6 if can_be(atoms, signs) else 1
                    self.assertEqual(last(*calls), expected, (atoms, signs))


class LinesHold(unittest.TestCase):
    """Whatever short line is taken holds wherever the claims do that it rests on."""

    ATOMS = [yes(), bound(1, 0, 0), bound(1, 0, -1)]
    CLAIMS = [(1, 2), (-1, 3), (-2,)]

    def worlds(self):
        for question in (False, True):
            for value in NEAR:
                yield (question, value <= 0, value <= -1)

    def clause_holds(self, clause, world):
        return any(world[abs(literal) - 1] == (literal > 0) for literal in clause)

    def follows(self, sources, clause):
        return all(
            self.clause_holds(clause, world)
            for world in self.worlds()
            if all(self.clause_holds(self.CLAIMS[source - 1], world) for source in sources)
        )

    def clauses(self):
        for size in range(4):
            yield from itertools.combinations((-1, 1, -2, 2, -3, 3), size)

    def check(self, call, sources, clause):
        calls = self.ATOMS + [claim(*literals) for literals in self.CLAIMS] + [call]
        taken = last(*calls) == 4
        if taken:
            self.assertTrue(self.follows(sources, clause), (call, sources, clause))
        return taken

    def test_bounds(self):
        taken = [clause for clause in self.clauses() if self.check(bounds(*clause), (), clause)]
        self.assertIn((2, -3), taken)

    def test_wider(self):
        taken = [clause for clause in self.clauses() for i in (1, 2, 3) if self.check(wider(i, *clause), (i,), clause)]
        self.assertIn((-2, 2), taken)

    def test_joined(self):
        taken = []
        for clause in self.clauses():
            for i, j, a in itertools.product((1, 2, 3), repeat=3):
                if self.check(joined(i, j, a, *clause), (i, j), clause):
                    taken.append((i, j, a, clause))
        self.assertEqual(sorted(taken), [(1, 2, 1, (2, 3)), (1, 3, 2, (1,))])

    def test_chain(self):
        taken = []
        for clause in self.clauses():
            for size in range(4):
                for lines in itertools.product((1, 2, 3), repeat=size):
                    if self.check(chain(lines, *clause), lines, clause):
                        taken.append((lines, clause))
        self.assertIn(((3, 1, 2), (3,)), taken)


if __name__ == "__main__":
    unittest.main()
