"""gauss, size, jacobi, even and sums at every n, with answers worked out from the document."""

import unittest

from support import ALL_ROUNDS, MOST, ask_at, even, gauss, jacobi, size, sums
import roots
import worked
import worked_sums

PRIMES = (2, 3, 5, 7, 11, 13)


def numbers_of(n):
    return range(len(worked.CHARACTERS[n]))


def whole(n, number):
    """A whole number, told as a sum."""
    return worked_sums.told(n, {0: number})


def each_with_a(n):
    return [(i, a) for i in numbers_of(n) for a in range(n)]


def each_with_each(n):
    return [(i, j) for i in numbers_of(n) for j in numbers_of(n)]


class SumsTestCase(unittest.TestCase):
    def assert_all_told(self, call, pairs_of, at_each_of):
        """At every n each sum has just as many numbers as it should, small ones, and is what was worked out."""
        for n in ALL_ROUNDS:
            degree = worked_sums.DEGREES[n]
            rows = roots.rows_of_powers(worked.ROUNDS[n][2])
            pairs = pairs_of(n)
            for pair, told in zip(pairs, ask_at(n, [call(*pair) for pair in pairs])):
                with self.subTest(n=n, pair=pair):
                    self.assertEqual([told[0], len(told)], [degree, degree + 1])
                    self.assertLess(max(abs(number) for number in told), 1000)
                    self.assertEqual(roots.at_each(told[1:], rows), at_each_of(n, pair, rows))


class RootsTest(unittest.TestCase):
    def test_prime(self):
        self.assertTrue(all(roots.PRIME % d != 0 for d in range(2, 100003)))
        self.assertGreater(100003 * 100003, roots.PRIME)

    def test_orders_and_degrees(self):
        for n in ALL_ROUNDS:
            with self.subTest(n=n):
                exponent, m = worked.ROUNDS[n][1:]
                self.assertEqual(roots.degree(m), worked_sums.DEGREES[n])
                self.assertEqual(roots.degree(exponent), worked_sums.DEGREES_OF_EXPONENT[n])
                rows = roots.rows_of_powers(m)
                self.assertEqual(len({row[1] for row in rows}), worked_sums.DEGREES[n])
                for row in rows:
                    self.assertEqual(len(set(row)), m)
                    self.assertEqual(row[-1] * row[1] % roots.PRIME, 1)


class GaussTest(SumsTestCase):
    def test_by_hand(self):
        for (n, i, a), numbers in worked_sums.GAUSS.items():
            with self.subTest(n=n, i=i, a=a):
                self.assertEqual(ask_at(n, [gauss(i, a)]), [worked_sums.told(n, numbers)])

    def test_of_the_character_0(self):
        for n in ALL_ROUNDS:
            with self.subTest(n=n):
                expected = [whole(n, number) for number in worked_sums.GAUSS_OF_0[n]]
                self.assertEqual(len(expected), n)
                self.assertEqual(ask_at(n, [gauss(0, a) for a in range(n)]), expected)

    def test_of_each_for_each(self):
        def at_each(n, pair, rows):
            return roots.summed_at_each(worked_sums.powers_of_gauss(n, *pair), rows)
        self.assert_all_told(gauss, each_with_a, at_each)

    def test_for_0(self):
        for n in ALL_ROUNDS:
            with self.subTest(n=n):
                expected = [whole(n, len(worked.UNITS[n]) if i == 0 else 0) for i in numbers_of(n)]
                self.assertEqual(ask_at(n, [gauss(i, 0) for i in numbers_of(n)]), expected)
                self.assertEqual(ask_at(n, [gauss(i, n) for i in numbers_of(n)]), expected)

    def test_a_is_told_round_n(self):
        for n in ALL_ROUNDS:
            highest = MOST // n * n - n
            pairs = each_with_a(n)
            expected = ask_at(n, [gauss(i, a) for i, a in pairs])
            for more in (n, 100 * n, highest):
                with self.subTest(n=n, more=more):
                    self.assertEqual(ask_at(n, [gauss(i, a + more) for i, a in pairs]), expected)

    def test_the_highest_number(self):
        # What 4294967295 leaves, by hand from 3 * 5 * 17 * 257 * 65537.
        left = {2: 1, 3: 0, 4: 3, 5: 0, 6: 3, 7: 3, 8: 7, 9: 3, 10: 5, 11: 3, 12: 3, 13: 8}
        for n in ALL_ROUNDS:
            with self.subTest(n=n):
                for call in (gauss, size):
                    told = ask_at(n, [call(i, MOST) for i in numbers_of(n)])
                    self.assertEqual(told, ask_at(n, [call(i, left[n]) for i in numbers_of(n)]))


class SizeTest(SumsTestCase):
    def test_of_each_for_each(self):
        for n in ALL_ROUNDS:
            pairs = each_with_a(n)
            for (i, a), told in zip(pairs, ask_at(n, [size(i, a) for i, a in pairs])):
                with self.subTest(n=n, i=i, a=a):
                    self.assertEqual(told, whole(n, worked_sums.size(n, i, a)))

    def test_the_sum_times_itself_gone_round_the_other_way(self):
        def at_each(n, pair, rows):
            return roots.sized_at_each(worked_sums.powers_of_gauss(n, *pair), rows)
        self.assert_all_told(size, each_with_a, at_each)

    def test_n_where_the_character_comes_from_n_itself(self):
        seen = []
        for n in ALL_ROUNDS:
            for i in numbers_of(n):
                if worked.ORIGINS[n][i] == n:
                    with self.subTest(n=n, i=i):
                        told = ask_at(n, [size(i, a) for a in range(n)])
                        expected = [whole(n, n if a in worked.UNITS[n] else 0) for a in range(n)]
                        self.assertEqual(told, expected)
                        seen.append(n)
        self.assertEqual(sorted(set(seen)), [3, 4, 5, 7, 8, 9, 11, 12, 13])

    def test_where_a_is_no_unit(self):
        self.assertEqual(ask_at(8, [size(2, 2), size(2, 4), size(0, 4)]), [whole(8, 16), whole(8, 0), whole(8, 16)])
        self.assertEqual(ask_at(9, [size(3, 3), size(3, 6), size(0, 3)]), [whole(9, 27), whole(9, 27), whole(9, 9)])
        self.assertEqual(ask_at(6, [size(1, 2), size(1, 3), size(0, 0)]), [whole(6, 3), whole(6, 0), whole(6, 4)])

    def test_a_is_told_round_n(self):
        for n in ALL_ROUNDS:
            highest = MOST // n * n - n
            pairs = each_with_a(n)
            for more in (n, highest):
                with self.subTest(n=n, more=more):
                    expected = [whole(n, worked_sums.size(n, i, a)) for i, a in pairs]
                    self.assertEqual(ask_at(n, [size(i, a + more) for i, a in pairs]), expected)


class JacobiTest(SumsTestCase):
    def test_by_hand(self):
        for (n, i, j), numbers in worked_sums.JACOBI.items():
            with self.subTest(n=n, i=i, j=j):
                expected = worked_sums.told(n, numbers)
                self.assertEqual(ask_at(n, [jacobi(i, j), jacobi(j, i)]), [expected, expected])

    def test_of_each_with_each(self):
        def at_each(n, pair, rows):
            return roots.summed_at_each(worked_sums.powers_of_jacobi(n, *pair), rows)
        self.assert_all_told(jacobi, each_with_each, at_each)

    def test_even_n(self):
        # Of y and 1 less y one is even, so no unit.
        for n in (2, 4, 6, 8, 10, 12):
            with self.subTest(n=n):
                pairs = each_with_each(n)
                expected = [[worked_sums.DEGREES[n]] + [0] * worked_sums.DEGREES[n]] * len(pairs)
                self.assertEqual(ask_at(n, [jacobi(i, j) for i, j in pairs]), expected)

    def test_sums_of_two_multiply_to_the_sum_of_both_times_the_joint_one(self):
        for n in PRIMES:
            rows = roots.rows_of_powers(worked.ROUNDS[n][2])
            pairs = [(i, j) for i, j in each_with_each(n) if worked.product(n, i, j) != 0]
            joints = ask_at(n, [jacobi(i, j) for i, j in pairs])
            for a in worked.UNITS[n]:
                told = ask_at(n, [gauss(i, a) for i in numbers_of(n)])
                single = [roots.at_each(answer[1:], rows) for answer in told]
                for (i, j), joint in zip(pairs, joints):
                    with self.subTest(n=n, a=a, i=i, j=j):
                        both = single[worked.product(n, i, j)]
                        self.assertEqual(roots.multiplied(single[i], single[j]),
                                         roots.multiplied(both, roots.at_each(joint[1:], rows)))


class EvenTest(unittest.TestCase):
    def test_of_each(self):
        for n in ALL_ROUNDS:
            with self.subTest(n=n):
                expected = [[number] for number in worked_sums.EVEN[n]]
                self.assertEqual(ask_at(n, [even(i) for i in numbers_of(n)]), expected)

    def test_worked_ones_give_n_less_1_0(self):
        for n in ALL_ROUNDS:
            with self.subTest(n=n):
                last = worked.UNITS[n].index(n - 1)
                zero = [int(row[last] == 0) for row in worked.CHARACTERS[n]]
                self.assertEqual(list(worked_sums.EVEN[n]), zero)


class PlainSumsTest(unittest.TestCase):
    def test_by_hand(self):
        self.assertEqual(ask_at(2, [sums()]), [[1, 1]])
        self.assertEqual(ask_at(5, [sums()]), [[2, 4, 0, 2, 0, 0, 2, 0, 0, 2, 0, 0]])
        self.assertEqual(ask_at(12, [sums()]), [[1, 4, 1, 0, 1, 0, 1, 0]])

    def test_at_every_n(self):
        for n in ALL_ROUNDS:
            with self.subTest(n=n):
                degree = worked_sums.DEGREES_OF_EXPONENT[n]
                how_many = len(worked.UNITS[n])
                expected = [degree, how_many] + [0] * (degree - 1) + ([degree] + [0] * degree) * (how_many - 1)
                self.assertEqual(ask_at(n, [sums()]), [expected])


if __name__ == "__main__":
    unittest.main()
