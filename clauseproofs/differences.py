"""Whether literals can be so together by differences, and what the unknowns can be then.

An atom is a tuple: of a bound (a, b, c), of a question nothing.
"""

QUESTION = ()


def said_by(atom, literal):
    """The bound that holds if a bound's literal is so."""
    if literal > 0:
        return atom
    # The unknowns are whole, so to be more than c is to be at least c + 1.
    return (atom[1], atom[0], -atom[2] - 1)


def bounds_said(atoms, literals):
    said = []
    for literal in literals:
        atom = atoms[abs(literal) - 1]
        if atom != QUESTION:
            said.append(said_by(atom, literal))
    return said


def lower_once(values, said):
    """Lower each value that is above what a bound allows; whether there was one. None is above all."""
    lowered = False
    for bound in said:
        if values[bound[1]] is not None:
            most = values[bound[1]] + bound[2]
            if values[bound[0]] is None or values[bound[0]] > most:
                values[bound[0]] = most
                lowered = True
    return lowered


def can_be_together(atoms, u, literals):
    """Whether in some world the bounds' literals among these all are so."""
    said = bounds_said(atoms, literals)
    values = [0] * (u + 1)
    # If no round of bounds adds up to less than 0, a value depends on at most u bounds in a row,
    # so that of u + 1 turns the last one lowers nothing. Else each turn lowers something.
    # Unknown 0 may be lowered as well: only how far values lie apart counts.
    for turn in range(u + 1):
        if not lower_once(values, said):
            return True
    return False


def add_up_to_less_than_0(said):
    """Whether in the sum of the bounds all unknowns fall out and 0 is at most something below 0."""
    if sum([bound[2] for bound in said]) >= 0:
        return False
    return sorted([bound[0] for bound in said]) == sorted([bound[1] for bound in said])


def one_place_more(choices, count):
    """The choices of one place more, of so many places; the order in which choices come stays the same."""
    longer = []
    for choice in choices:
        behind = choice[-1] + 1 if len(choice) > 0 else 0
        for spot in range(behind, count):
            longer.append(choice + (spot,))
    return longer


def reason_of(atoms, u, literals):
    """The fewest of them, in their order, that can't be so together by differences; None if all can be."""
    # Asked first, as it is quick: most often they can be, and no choice need be gone through.
    if can_be_together(atoms, u, literals):
        return None
    bounding = [literal for literal in literals if atoms[abs(literal) - 1] != QUESTION]
    said = bounds_said(atoms, bounding)
    choices = [()]
    # The fewest bounds that can't be are one round, of u + 1 at most, so it's enough to add them up.
    for size in range(u + 1):
        choices = one_place_more(choices, len(said))
        for choice in choices:
            if add_up_to_less_than_0([said[spot] for spot in choice]):
                return [bounding[spot] for spot in choice]
    return None


def most_above(u, said, base):
    """Of each unknown how much more than this one it can be at most; None if that has no end."""
    values = [None] * (u + 1)
    values[base] = 0
    # The bounds can be so together, so a value depends on at most u of them in a row.
    for turn in range(u):
        lower_once(values, said)
    return values


def nearest_to_0(u, said, unknown):
    most = most_above(u, said, 0)[unknown]
    if most is not None and most < 0:
        return most
    most_below = most_above(u, said, unknown)[0]
    if most_below is not None and most_below < 0:
        return -most_below
    return 0


def nearest_values(u, said):
    """The unknowns, 1 first, each as near to 0 as it can be with the bounds and the unknowns before it."""
    settled = list(said)
    values = []
    for unknown in range(1, u + 1):
        value = nearest_to_0(u, settled, unknown)
        values.append(value)
        settled.append((unknown, 0, value))
        settled.append((0, unknown, -value))
    return values
