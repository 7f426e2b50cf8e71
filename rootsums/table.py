"""Characters as lists of numbers, one number for each unit, in the units' order."""


# A law (i, j, k) says that the unit at place i times that at place j is the one at place k.
def laws_of(n, units):
    laws = []
    for i, one in enumerate(units):
        for j, other in enumerate(units):
            laws.append((i, j, units.index(one * other % n)))
    return laws


def keeps_laws(numbers, laws, exponent):
    return all([(numbers[i] + numbers[j]) % exponent == numbers[k] for i, j, k in laws])


# A law is asked as soon as its last place is filled, so that the beginnings stay few.
# Each beginning is lengthened by lower numbers first: this alone gives the order that the characters are numbered in.
def characters_of(n, units, exponent):
    laws = laws_of(n, units)
    begun = [[]]
    for place in range(len(units)):
        due = [law for law in laws if max(law) == place]
        longer = []
        for numbers in begun:
            for v in range(exponent):
                tried = numbers + [v]
                if keeps_laws(tried, due, exponent):
                    longer.append(tried)
        begun = longer
    return begun


def product_of(one, other, exponent):
    return [(v + w) % exponent for v, w in zip(one, other)]


def inverse_of(numbers, exponent):
    return [(exponent - v) % exponent for v in numbers]


# 1 itself is divided too: by d = 1 it leaves 0, as each unit does.
def comes_from(d, units, numbers):
    return all([v == 0 for u, v in zip(units, numbers) if u % d == 1 % d])


# n needs no asking: of the units only 1 leaves 1 there, and it is given 0 by each character.
def origin_of(n, units, numbers):
    for d in range(1, n):
        if n % d == 0 and comes_from(d, units, numbers):
            return d
    return n
