"""Whether literals can be so together by differences.

An atom is a tuple: of a bound (a, b, c), of a question nothing.
"""

QUESTION = ()


def said_by(atom, literal):
    """The bound that holds if a bound's literal is so."""
    if literal > 0:
        return atom
    # The unknowns are whole, so to be more than c is to be at least c + 1.
    return (atom[1], atom[0], -atom[2] - 1)


def bounds_said(atoms, literals):
    said = []
    for literal in literals:
        atom = atoms[abs(literal) - 1]
        if atom != QUESTION:
            said.append(said_by(atom, literal))
    return said


def lower_once(values, said):
    """Lower each value that is above what a bound allows; whether there was one."""
    lowered = False
    for bound in said:
        most = values[bound[1]] + bound[2]
        if values[bound[0]] > most:
            values[bound[0]] = most
            lowered = True
    return lowered


def can_be_together(atoms, u, literals):
    """Whether in some world the bounds' literals among these all are so."""
    said = bounds_said(atoms, literals)
    values = [0] * (u + 1)
    # If no round of bounds adds up to less than 0, a value depends on at most u bounds in a row,
    # so that of u + 1 turns the last one lowers nothing. Else each turn lowers something.
    # Unknown 0 may be lowered as well: only how far values lie apart counts.
    for turn in range(u + 1):
        if not lower_once(values, said):
            return True
    return False
