"""All that is fixed once n is."""

from rootsums.circles import circle_of
from rootsums.rounds import common_multiple, exponent_of, units_of
from rootsums.table import characters_of


class Ring:
    def __init__(self, n):
        self.n = n
        self.units = units_of(n)
        self.exponent = exponent_of(n, self.units)
        self.parts = common_multiple(n, self.exponent)
        self.polynomial = circle_of(self.parts)
        self.characters = characters_of(n, self.units, self.exponent)

    def lacks(self, i):
        return i >= len(self.characters)

    def number_of(self, numbers):
        return self.characters.index(numbers)

    def given(self, numbers, unit):
        return numbers[self.units.index(unit)]
