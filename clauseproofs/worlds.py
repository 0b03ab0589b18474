"""The first world in which clauses hold."""

from clauseproofs.clauses import is_broken
from clauseproofs.differences import bounds_said, can_be_together, nearest_values


def first_row(atoms, u, clauses, so):
    """Of each atom the literal that is so, in the first row that begins with these; None if there is no such row."""
    if any([is_broken(clause, so) for clause in clauses]) or not can_be_together(atoms, u, so):
        return None
    if len(so) == len(atoms):
        return so
    atom = len(so) + 1
    found = first_row(atoms, u, clauses, so + [-atom])
    if found is not None:
        return found
    return first_row(atoms, u, clauses, so + [atom])


def first_world(atoms, u, clauses):
    """The literals that are so, and the unknowns; None if there is no world."""
    so = first_row(atoms, u, clauses, [])
    if so is None:
        return None
    return (so, nearest_values(u, bounds_said(atoms, so)))
