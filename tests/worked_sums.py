"""Sums worked out from the document, never taken from the program."""

import math

import worked

# n: the degree of the circle's for m, so how many numbers each sum but those of sums has.
DEGREES = {2: 1, 3: 2, 4: 2, 5: 8, 6: 2, 7: 12, 8: 4, 9: 6, 10: 8, 11: 40, 12: 4, 13: 48}

# n: the degree of the circle's for e.
DEGREES_OF_EXPONENT = {2: 1, 3: 1, 4: 1, 5: 2, 6: 1, 7: 2, 8: 1, 9: 2, 10: 2, 11: 4, 12: 1, 13: 4}

# n: what even answers for each character.
EVEN = {
    2: (1,),
    3: (1, 0),
    4: (1, 0),
    5: (1, 0, 1, 0),
    6: (1, 0),
    7: (1, 0, 0, 1, 1, 0),
    8: (1, 0, 0, 1),
    9: (1, 0, 1, 0, 1, 0),
    10: (1, 0, 1, 0),
    11: (1, 0, 1, 0, 1, 0, 1, 0, 1, 0),
    12: (1, 0, 0, 1),
    13: (1, 0, 1, 0, 1, 0, 1, 0, 1, 0, 1, 0),
}

# n: what gauss tells of the character 0 for a = 0, 1 and so on to n - 1, a whole number each.
GAUSS_OF_0 = {
    2: (1, -1),
    3: (2, -1, -1),
    4: (2, 0, -2, 0),
    5: (4, -1, -1, -1, -1),
    6: (2, 1, -1, -2, -1, 1),
    7: (6, -1, -1, -1, -1, -1, -1),
    8: (4, 0, 0, 0, -4, 0, 0, 0),
    9: (6, 0, 0, -3, 0, 0, -3, 0, 0),
    10: (4, 1, -1, 1, -1, -4, -1, 1, -1, 1),
    11: (10, -1, -1, -1, -1, -1, -1, -1, -1, -1, -1),
    12: (4, 0, 2, 0, -2, 0, -4, 0, -2, 0, 2, 0),
    13: (12, -1, -1, -1, -1, -1, -1, -1, -1, -1, -1, -1, -1),
}

# (n, i, a): the sum, a number for each power of x whose number isn't 0; all by hand.
# The character 2 has the root of 5 at n = 5 and at n = 10, the character 1 that of -7 at n = 7.
GAUSS = {
    (3, 1, 0): {},
    (3, 1, 1): {0: -1, 1: 2},
    (3, 1, 2): {0: 1, 1: -2},
    (4, 1, 0): {},
    (4, 1, 1): {1: 2},
    (4, 1, 2): {},
    (4, 1, 3): {1: -2},
    (5, 2, 0): {},
    (5, 2, 1): {0: 1, 4: 2, 6: -2},
    (5, 2, 2): {0: -1, 4: -2, 6: 2},
    (6, 1, 1): {0: -1, 1: 2},
    (6, 1, 2): {0: -1, 1: 2},
    (6, 1, 3): {},
    (6, 1, 4): {0: 1, 1: -2},
    (6, 1, 5): {0: 1, 1: -2},
    (7, 1, 1): {0: -1, 1: -2, 4: 2, 8: 2, 9: 2, 11: -2},
    (7, 1, 2): {0: -1, 1: -2, 4: 2, 8: 2, 9: 2, 11: -2},
    (7, 1, 3): {0: 1, 1: 2, 4: -2, 8: -2, 9: -2, 11: 2},
    (8, 1, 1): {1: 2, 3: 2},
    (8, 1, 2): {},
    (8, 2, 1): {},
    (8, 2, 2): {2: 4},
    (8, 3, 1): {1: 2, 3: -2},
    (8, 3, 3): {1: -2, 3: 2},
    (9, 1, 1): {1: -3, 4: 3},
    (9, 1, 3): {},
    (9, 3, 1): {},
    (9, 3, 3): {0: -3, 3: 6},
    (10, 1, 1): {0: -1, 1: -2, 2: 2, 3: 1, 4: -1, 5: -1, 6: 1, 7: 1},
    (10, 2, 1): {0: 1, 4: 2, 6: -2},
    (10, 2, 5): {},
    (12, 1, 1): {3: 2},
    (12, 1, 4): {},
    (12, 2, 1): {},
    (12, 3, 1): {1: 4, 3: -2},
    (12, 3, 5): {1: -4, 3: 2},
    (12, 3, 3): {},
}

# (n, i, j): the joint sum, as above; all by hand.
JACOBI = {
    (3, 0, 0): {0: 1},
    (3, 0, 1): {0: -1},
    (3, 1, 1): {0: 1},
    (5, 0, 0): {0: 3},
    (5, 0, 2): {0: -1},
    (5, 1, 1): {0: -1, 5: -2},
    (5, 1, 3): {0: 1},
    (5, 2, 2): {0: -1},
    (7, 0, 0): {0: 5},
    (7, 1, 1): {0: 1},
    (7, 3, 3): {0: -1, 7: 3},
    (7, 3, 4): {0: -1},
    (9, 0, 0): {0: 3},
    (9, 0, 3): {0: -3},
    (9, 3, 3): {0: 3},
    (9, 0, 1): {},
    (11, 0, 0): {0: 9},
    (11, 5, 5): {0: 1},
    (11, 2, 2): {0: 2, 11: -1, 22: 4, 33: -2},
    (13, 0, 0): {0: 11},
    (13, 6, 6): {0: -1},
    (13, 3, 3): {0: 3, 39: -2},
}


def told(n, numbers):
    """A sum of the tables above, as it is answered."""
    return [DEGREES[n]] + [numbers.get(power, 0) for power in range(DEGREES[n])]


def powers_of_gauss(n, i, a):
    """The powers of x that are summed for a, each as often as it comes."""
    exponent, m = worked.ROUNDS[n][1:]
    return [(v * (m // exponent) + a * u % n * (m // n)) % m
            for u, v in zip(worked.UNITS[n], worked.CHARACTERS[n][i])]


def powers_of_jacobi(n, i, j):
    exponent, m = worked.ROUNDS[n][1:]
    one = dict(zip(worked.UNITS[n], worked.CHARACTERS[n][i]))
    other = dict(zip(worked.UNITS[n], worked.CHARACTERS[n][j]))
    asked = [y for y in range(n) if y in one and (1 - y) % n in other]
    return [(one[y] + other[(1 - y) % n]) * (m // exponent) % m for y in asked]


def has_square(number):
    return any(number % (d * d) == 0 for d in range(2, number + 1))


def size(n, i, a):
    """The size of each sum is a whole number; this tells it from the character's origin, with no sum at all.

    It's the known rule for sums of characters that come from a lower number.
    """
    low = n // math.gcd(n, a)
    origin = worked.ORIGINS[n][i]
    if low % origin != 0:
        return 0
    over = low // origin
    if has_square(over) or math.gcd(over, origin) > 1:
        return 0
    units_of_low = len([u for u in range(1, low + 1) if math.gcd(u, low) == 1])
    return origin * (len(worked.UNITS[n]) // units_of_low) ** 2
