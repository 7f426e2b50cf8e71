"""Another way to tell exact numbers apart: round a prime that is 1 above a multiple of m, x may be a number.

Such a prime has as many numbers of order m as the circle's for m has degree, and what's a multiple of the circle's
is 0 at each of them. Two polynomials below that degree that agree at all of them have the same numbers round the
prime; and so the same numbers, where these are small. Nothing is divided here, so nothing is taken from the program.
"""

import math

# 27751 * 360360 + 1, and 360360 is a multiple of every m that is asked for.
PRIME = 10000350361
# Its powers are all numbers from 1 to PRIME - 1.
GENERATOR = 29


def exponents(m):
    return [k for k in range(1, m + 1) if math.gcd(k, m) == 1]


def degree(m):
    return len(exponents(m))


def rows_of_powers(m):
    """For each number of order m its powers, from 0 to m - 1."""
    root = pow(GENERATOR, (PRIME - 1) // m, PRIME)
    powers = [pow(root, i, PRIME) for i in range(m)]
    return [[powers[k * i % m] for i in range(m)] for k in exponents(m)]


def at_each(numbers, rows):
    """A told sum at each number of order m."""
    return [sum(number * power for number, power in zip(numbers, row)) % PRIME for row in rows]


def summed_at_each(powers, rows):
    """The sum of x to these powers at each number of order m."""
    return [sum(row[power] for power in powers) % PRIME for row in rows]


def sized_at_each(powers, rows):
    """The same, times the sum of x to these powers gone round the other way."""
    back = [-power % len(rows[0]) for power in powers]
    return multiplied(summed_at_each(powers, rows), summed_at_each(back, rows))


def multiplied(one, other):
    return [v * w % PRIME for v, w in zip(one, other)]
