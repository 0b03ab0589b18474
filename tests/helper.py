"""Calls in the form in which they are handed in, and what is answered to them."""

from clauseproofs.book import answers


def row(numbers):
    return [len(numbers)] + list(numbers)


def start(u):
    return [0, u]


def yes():
    return [1]


def bound(a, b, c):
    return [2, a, b, c]


def claim(*literals):
    return [3] + row(literals)


def bounds(*literals):
    return [4] + row(literals)


def joined(i, j, a, *literals):
    return [5, i, j, a] + row(literals)


def wider(i, *literals):
    return [6, i] + row(literals)


def chain(lines, *literals):
    return [7] + row(lines) + row(literals)


def drop(k):
    return [8, k]


def in_one_list(calls):
    return [number for call in calls for number in call]


def answered(*calls):
    """What is answered to each call: its one number."""
    given = answers(in_one_list(calls))
    counts = given[0::2]
    if len(given) != 2 * len(calls) or counts != [1] * len(calls):
        raise AssertionError(f"not one number for each call: {given}")
    return given[1::2]


def last(*calls):
    """What is answered to the last call."""
    return answered(*calls)[-1]
