"""Numbers round n: which are units, their exponent, and the parts of the circle."""


def common_divisor(a, b):
    while b > 0:
        rest = a % b
        a = b
        b = rest
    return a


def common_multiple(a, b):
    return a * b // common_divisor(a, b)


def units_of(n):
    return [u for u in range(n) if common_divisor(u, n) == 1]


def exponent_of(n, units):
    exponent = 1
    powers = list(units)
    while any([power != 1 for power in powers]):
        powers = [power * u % n for power, u in zip(powers, units)]
        exponent += 1
    return exponent
