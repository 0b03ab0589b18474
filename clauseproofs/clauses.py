"""Clauses. One is a tuple of literals, each of them once, in the order in which it is told."""


def place(literal):
    """Where a literal stands in a clause: by its atom, and of the same atom -k ahead of k."""
    return 2 * abs(literal) + (1 if literal > 0 else 0)


def clause_of(literals):
    return tuple(sorted(sorted(set(literals)), key=place))


def opposites(literals):
    return [-literal for literal in literals]


def without(clause, literal):
    return [other for other in clause if other != literal]


def put_together(first, second, atom):
    """All literals of both, but the atom of the first and its opposite of the second."""
    # A loose clause keeps the opposite of what is taken out of it; else what is put together would not hold.
    return clause_of(without(first, atom) + without(second, -atom))


def is_loose(clause):
    return any([-literal in clause for literal in clause])


def is_broken(clause, so):
    """Whether none of its literals can be so any more, by the literals that are so."""
    return all([-literal in so for literal in clause])
