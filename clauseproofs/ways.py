"""Lines, and whether one is shown in the way that it tells."""

from clauseproofs.clauses import clause_of, opposites, without
from clauseproofs.differences import can_be_together

AS_CLAIM = 0
BY_BOUNDS = 1
BY_JOINING = 2
BY_WIDENING = 3
BY_CHAIN = 4


class Line:
    # What its way names are lines alone, but of way 2 i, j and the atom a.

    def __init__(self, way, named, clause):
        self.way = way
        self.named = named
        self.clause = clause

    def sources(self):
        if self.way == BY_JOINING:
            return self.named[:2]
        return self.named


def shown_by_differences(clause, atoms, u):
    return not can_be_together(atoms, u, opposites(clause))


def shown_by_joining(clause, first, second, atom):
    if atom not in first or -atom not in second:
        return False
    # A loose line keeps the opposite of what is taken out of it; else what is joined would not hold.
    return clause == clause_of(without(first, atom) + without(second, -atom))


def shown_by_widening(clause, source):
    return all([literal in clause for literal in source])


def shown_by_chain(clause, sources):
    not_so = list(clause)
    for source in sources:
        left = [literal for literal in source if literal not in not_so]
        if len(left) == 0:
            return True
        if len(left) > 1:
            return False
        not_so.append(-left[0])
    return False


def is_shown(line, sources, atoms, u):
    """Whether a line that is no claim is shown so; sources are the clauses of the lines that it names, in order."""
    if line.way == BY_BOUNDS:
        return shown_by_differences(line.clause, atoms, u)
    if line.way == BY_JOINING:
        return shown_by_joining(line.clause, sources[0], sources[1], line.named[2])
    if line.way == BY_WIDENING:
        return shown_by_widening(line.clause, sources[0])
    return shown_by_chain(line.clause, sources)
