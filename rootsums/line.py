"""One line's calls: each answers a list of numbers, or a refusal alone in a list."""

from rootsums.circles import circle_of
from rootsums.ring import Ring
from rootsums.summed import gauss_powers, joint_powers, size_powers, told_sum
from rootsums.table import inverse_of, origin_of, product_of

FIRST_ROUND = 2
LAST_ROUND = 13
FIRST_CIRCLE = 1
LAST_CIRCLE = 200
NO_SUCH_ROUND = -1
NO_SUCH_CIRCLE = -1
NO_SUCH_CHARACTER = -2
NOT_A_UNIT = -3


class Line:
    def __init__(self):
        self.ring = Ring(FIRST_ROUND)

    def round_of(self, n):
        if n < FIRST_ROUND or n > LAST_ROUND:
            return [NO_SUCH_ROUND]
        self.ring = Ring(n)
        return [len(self.ring.units), self.ring.exponent, self.ring.parts]

    def chars(self):
        answer = [len(self.ring.characters)]
        for numbers in self.ring.characters:
            answer.extend(numbers)
        return answer

    def char(self, i):
        if self.ring.lacks(i):
            return [NO_SUCH_CHARACTER]
        return list(self.ring.characters[i])

    def value(self, i, a):
        if self.ring.lacks(i):
            return [NO_SUCH_CHARACTER]
        rest = a % self.ring.n
        if rest not in self.ring.units:
            return [NOT_A_UNIT]
        return [self.ring.given(self.ring.characters[i], rest)]

    def product(self, i, j):
        if self.ring.lacks(i) or self.ring.lacks(j):
            return [NO_SUCH_CHARACTER]
        both = product_of(self.ring.characters[i], self.ring.characters[j], self.ring.exponent)
        return [self.ring.number_of(both)]

    def inverse(self, i):
        if self.ring.lacks(i):
            return [NO_SUCH_CHARACTER]
        return [self.ring.number_of(inverse_of(self.ring.characters[i], self.ring.exponent))]

    def from_what(self, i):
        if self.ring.lacks(i):
            return [NO_SUCH_CHARACTER]
        return [origin_of(self.ring.n, self.ring.units, self.ring.characters[i])]

    def gauss(self, i, a):
        if self.ring.lacks(i):
            return [NO_SUCH_CHARACTER]
        powers = gauss_powers(self.ring, self.ring.characters[i], a)
        return told_sum(powers, self.ring.parts, self.ring.polynomial)

    def size(self, i, a):
        if self.ring.lacks(i):
            return [NO_SUCH_CHARACTER]
        powers = gauss_powers(self.ring, self.ring.characters[i], a)
        return told_sum(size_powers(powers), self.ring.parts, self.ring.polynomial)

    def jacobi(self, i, j):
        if self.ring.lacks(i) or self.ring.lacks(j):
            return [NO_SUCH_CHARACTER]
        powers = joint_powers(self.ring, self.ring.characters[i], self.ring.characters[j])
        return told_sum(powers, self.ring.parts, self.ring.polynomial)

    def circle(self, m):
        if m < FIRST_CIRCLE or m > LAST_CIRCLE:
            return [NO_SUCH_CIRCLE]
        numbers = circle_of(m)
        return [len(numbers)] + numbers

    def even(self, i):
        if self.ring.lacks(i):
            return [NO_SUCH_CHARACTER]
        return [1 if self.ring.given(self.ring.characters[i], self.ring.n - 1) == 0 else 0]

    def sums(self):
        polynomial = circle_of(self.ring.exponent)
        answer = []
        for numbers in self.ring.characters:
            answer.extend(told_sum(numbers, self.ring.exponent, polynomial))
        return answer
