"""Writes calls as the interface tells, and reads the answers back."""

from rootsums.characters import answers

MOST = 4294967295
ALL_ROUNDS = range(2, 14)


def round_of(n):
    return (0, n)


def chars():
    return (1,)


def char(i):
    return (2, i)


def value(i, a):
    return (3, i, a)


def product(i, j):
    return (4, i, j)


def inverse(i):
    return (5, i)


def from_what(i):
    return (6, i)


def gauss(i, a):
    return (7, i, a)


def size(i, a):
    return (8, i, a)


def jacobi(i, j):
    return (9, i, j)


def circle(m):
    return (10, m)


def even(i):
    return (11, i)


def sums():
    return (12,)


def written(calls):
    return [number for call in calls for number in call]


def split_up(told):
    """The answers one by one; a count that doesn't fit what stands behind it is an error."""
    parts = []
    at = 0
    while at < len(told):
        end = at + 1 + told[at]
        if told[at] < 1 or end > len(told):
            raise AssertionError(f"bad count at {at} of {told}")
        parts.append(told[at + 1:end])
        at = end
    return parts


def ask(*calls):
    """The answers to one line, of at most 30 calls."""
    if not 1 <= len(calls) <= 30:
        raise AssertionError("a line has 1 to 30 calls")
    parts = split_up(answers(written(calls)))
    if len(parts) != len(calls):
        raise AssertionError(f"{len(calls)} calls, {len(parts)} answers")
    return parts


def ask_at(n, calls):
    """The answers to any number of calls round n, asked line by line."""
    parts = []
    for at in range(0, len(calls), 29):
        parts.extend(ask(round_of(n), *calls[at:at + 29])[1:])
    return parts
