"""The document's own words, asked of the answers and of the worked tables alike."""

import itertools
import math
import unittest

from support import ALL_ROUNDS, ask_at, ask, chars, from_what, inverse, product, round_of
import worked


def units_of(n):
    return [u for u in range(n) if math.gcd(u, n) == 1]


def characters(n):
    """All that the program tells, row by row."""
    told = ask_at(n, [chars()])[0]
    width = len(units_of(n))
    return [tuple(told[at:at + width]) for at in range(1, len(told), width)]


class WordsTest(unittest.TestCase):
    def test_worked_units(self):
        for n in ALL_ROUNDS:
            self.assertEqual(list(worked.UNITS[n]), units_of(n))

    def test_round(self):
        for n in ALL_ROUNDS:
            with self.subTest(n=n):
                how_many, exponent, m = ask(round_of(n))[0]
                self.assertEqual(how_many, len(units_of(n)))
                serving = [e for e in range(1, 50) if all(pow(u, e, n) == 1 for u in units_of(n))]
                self.assertEqual(exponent, serving[0])
                self.assertEqual(m, next(k for k in range(1, 500) if k % n == 0 and k % exponent == 0))

    def test_a_product_has_the_sum(self):
        for n in ALL_ROUNDS:
            with self.subTest(n=n):
                units = units_of(n)
                exponent = worked.ROUNDS[n][1]
                for row in characters(n):
                    given = dict(zip(units, row))
                    self.assertTrue(all(0 <= v < exponent for v in row))
                    for u, w in itertools.product(units, units):
                        self.assertEqual(given[u * w % n], (given[u] + given[w]) % exponent)

    def test_as_many_as_units_in_order_each_once(self):
        for n in ALL_ROUNDS:
            with self.subTest(n=n):
                rows = characters(n)
                self.assertEqual(len(rows), len(units_of(n)))
                self.assertEqual(rows, sorted(set(rows)))

    def test_product_and_inverse(self):
        for n in ALL_ROUNDS:
            with self.subTest(n=n):
                rows = characters(n)
                exponent = worked.ROUNDS[n][1]
                pairs = list(itertools.product(range(len(rows)), repeat=2))
                for (i, j), told in zip(pairs, ask_at(n, [product(i, j) for i, j in pairs])):
                    sums = tuple((v + w) % exponent for v, w in zip(rows[i], rows[j]))
                    self.assertEqual(rows[told[0]], sums)
                for i, told in enumerate(ask_at(n, [inverse(i) for i in range(len(rows))])):
                    together = [(v + w) % exponent for v, w in zip(rows[i], rows[told[0]])]
                    self.assertEqual(together, [0] * len(rows))

    def test_from_is_the_least_divisor_that_serves(self):
        for n in ALL_ROUNDS:
            with self.subTest(n=n):
                units = units_of(n)
                rows = characters(n)
                for row, told in zip(rows, ask_at(n, [from_what(i) for i in range(len(rows))])):
                    serving = [d for d in range(1, n + 1) if n % d == 0
                               and not any(v for u, v in zip(units, row) if (u - 1) % d == 0)]
                    self.assertEqual(told, [min(serving)])


if __name__ == "__main__":
    unittest.main()
