"""Sums of powers of x: each is a list of these powers, until it is told."""

from rootsums.circles import rest_of


def gauss_powers(ring, numbers, a):
    for_value = ring.parts // ring.exponent
    for_rest = ring.parts // ring.n
    return [v * for_value + (a * u % ring.n) * for_rest for u, v in zip(ring.units, numbers)]


# Gone round the other way, a power is the same below 0: the power m of x is 1.
def size_powers(powers):
    longer = []
    for power in powers:
        longer.extend([power - back for back in powers])
    return longer


def joint_powers(ring, one, other):
    for_value = ring.parts // ring.exponent
    powers = []
    for y in ring.units:
        less = (1 - y) % ring.n
        if less in ring.units:
            powers.append((ring.given(one, y) + ring.given(other, less)) * for_value)
    return powers


def told_sum(powers, m, polynomial):
    numbers = [0] * m
    for power in powers:
        numbers[power % m] += 1
    left = rest_of(numbers, polynomial)
    return [len(left)] + left
