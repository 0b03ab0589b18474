"""The judge of a proof that is told step by step."""

from clauseproofs.clauses import clause_of
from clauseproofs.ways import BY_CHAIN, Line, is_shown

# By its way: how many numbers a step names; a chain tells itself how many.
NAMED = (0, 0, 3, 1)


def split_steps(steps):
    """The steps as lines."""
    found = []
    at = 0
    while at < len(steps):
        way = steps[at]
        named_at = at + 2 if way == BY_CHAIN else at + 1
        end = named_at + (steps[at + 1] if way == BY_CHAIN else NAMED[way])
        at = end + 1 + steps[end]
        found.append(Line(way, tuple(steps[named_at:end]), clause_of(steps[end + 1:at])))
    return found


def count_right(steps, lines, next_number, atoms, u):
    """How many steps are right ahead of the first that isn't."""
    known = dict(lines)
    for right, step in enumerate(steps):
        if not is_shown(step, known, atoms, u):
            return right
        known[next_number + right] = step
    return len(steps)
