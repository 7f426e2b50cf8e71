"""The circle's polynomials: lists of numbers, of the powers of x from 0 on."""


# The divisor's highest number is 1, so each number of the quotient is read off whole, and stays where it is read:
# below the divisor's degree stands what is left, from there on the quotient.
def divided(numbers, divisor):
    degree = len(divisor) - 1
    both = list(numbers)
    # Most numbers of a circle's are 0 and take nothing away.
    filled = [i for i in range(degree) if divisor[i] != 0]
    for at in range(len(numbers) - 1, degree - 1, -1):
        for i in filled:
            both[at - degree + i] -= both[at] * divisor[i]
    return both


def quotient_of(numbers, divisor):
    return divided(numbers, divisor)[len(divisor) - 1:]


def rest_of(numbers, divisor):
    return divided(numbers, divisor)[:len(divisor) - 1]


def circle_from(m, lower):
    numbers = [-1] + [0] * (m - 1) + [1]
    for d in lower:
        if m % d == 0:
            numbers = quotient_of(numbers, lower[d])
    return numbers


# The divisors come in order, so those of each are there before it.
def circle_of(m):
    found = {}
    for d in range(1, m + 1):
        if m % d == 0:
            found[d] = circle_from(d, found)
    return found[m]
