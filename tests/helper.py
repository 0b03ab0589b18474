"""Calls in the form in which they are handed in, and what is answered to them."""

from clauseproofs.book import answers


def row(numbers):
    return [len(numbers)] + list(numbers)


def start(u):
    return [0, u]


def yes():
    return [1]


def bound(a, b, c):
    return [2, a, b, c]


def claim(*literals):
    return [3] + row(literals)


def bounds(*literals):
    return [4] + row(literals)


def joined(i, j, a, *literals):
    return [5, i, j, a] + row(literals)


def wider(i, *literals):
    return [6, i] + row(literals)


def chain(lines, *literals):
    return [7] + row(lines) + row(literals)


def drop(k):
    return [8, k]


def mark():
    return [9]


def back():
    return [10]


def decide():
    return [11]


def prove():
    return [12]


def show(k):
    return [13, k]


def rests(k):
    return [14, k]


def came(k):
    return [15, k]


def step(way, named, *literals):
    """One step for judge; of a chain the count of its lines stands ahead of them."""
    return [way] + (row(named) if way == 4 else list(named)) + row(literals)


def judge(*steps):
    return [16] + row(in_one_list(steps))


def reason(*literals):
    return [17] + row(literals)


def in_one_list(calls):
    return [number for call in calls for number in call]


def answered(*calls):
    """What is answered to each call: its one number."""
    given = answers(in_one_list(calls))
    counts = given[0::2]
    if len(given) != 2 * len(calls) or counts != [1] * len(calls):
        raise AssertionError(f"not one number for each call: {given}")
    return given[1::2]


def last(*calls):
    """What is answered to the last call."""
    return answered(*calls)[-1]


def told(*calls):
    """What is answered to each call, as a list."""
    given = answers(in_one_list(calls))
    found = []
    at = 0
    while at < len(given):
        end = at + 1 + given[at]
        found.append(given[at + 1:end])
        at = end
    if at != len(given) or len(found) != len(calls):
        raise AssertionError(f"not one answer for each call: {given}")
    return found


def last_told(*calls):
    return told(*calls)[-1]


def step_shown(answer):
    """The step that tells the line that show has told so."""
    named = answer[2:2 + answer[1]]
    return step(answer[0], named, *answer[3 + answer[1]:])


# With u = 4: a proof of more than a hundred lines, of claims four of which are the same (2, 7, 9 and 13).
LONG_ATOMS = [
    start(4), bound(0, 4, -3), bound(1, 0, -1), bound(4, 2, 1), bound(1, 3, 2), bound(4, 3, 3), bound(1, 0, -4),
    bound(1, 2, -4), bound(2, 0, 0),
]
LONG_CLAIMS = [
    claim(-3, 8, -7, 6), claim(-8, 7), claim(8, 4, 5), claim(8, 4, 7), claim(-6, -7), claim(-5, -4, 6, 8),
    claim(-8, 7), claim(5, 3, 8), claim(-8, 7), claim(-5, -1, 4, -8), claim(7, -8, -6), claim(5, -4, 8),
    claim(-8, 7), claim(-5, -8, -2, 6),
]
LONG = LONG_ATOMS + LONG_CLAIMS

# 310 lines behind the second back.
OVER = LONG + [prove(), mark(), drop(2), prove(), mark(), drop(7), prove(), back(), back()]
