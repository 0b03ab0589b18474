"""Lines, and whether one is shown in the way that it tells."""

from clauseproofs.clauses import opposites, put_together
from clauseproofs.differences import can_be_together

AS_CLAIM = 0
BY_BOUNDS = 1
BY_JOINING = 2
BY_WIDENING = 3
BY_CHAIN = 4


class Line:
    # What its way names are lines alone, but of way 2 i, j and the atom a.

    def __init__(self, way, named, clause):
        self.way = way
        self.named = named
        self.clause = clause

    def sources(self):
        if self.way == BY_JOINING:
            return self.named[:2]
        return self.named


def shown_by_differences(clause, atoms, u):
    return not can_be_together(atoms, u, opposites(clause))


def shown_by_joining(clause, first, second, atom):
    if first is None or second is None or atom not in first or -atom not in second:
        return False
    return clause == put_together(first, second, atom)


def shown_by_widening(clause, source):
    return source is not None and all([literal in clause for literal in source])


def shown_by_chain(clause, sources):
    not_so = list(clause)
    for source in sources:
        if source is None:
            return False
        left = [literal for literal in source if literal not in not_so]
        if len(left) == 0:
            return True
        if len(left) > 1:
            return False
        not_so.append(-left[0])
    return False


def is_shown(line, lines, atoms, u):
    """Whether a line that is no claim is shown so by the lines that there are; one that it names need not be there."""
    sources = [lines[source].clause if source in lines else None for source in line.sources()]
    if line.way == BY_BOUNDS:
        return shown_by_differences(line.clause, atoms, u)
    if line.way == BY_JOINING:
        return shown_by_joining(line.clause, sources[0], sources[1], line.named[2])
    if line.way == BY_WIDENING:
        return shown_by_widening(line.clause, sources[0])
    return shown_by_chain(line.clause, sources)
