"""Each call at every n, with answers worked out from the document."""

import unittest

from support import ALL_ROUNDS, MOST, ask, ask_at, char, chars, from_what, inverse, product, round_of, value
import worked


class OrdinaryTest(unittest.TestCase):
    def test_round(self):
        for n in ALL_ROUNDS:
            with self.subTest(n=n):
                self.assertEqual(ask(round_of(n)), [list(worked.ROUNDS[n])])

    def test_chars(self):
        for n in ALL_ROUNDS:
            with self.subTest(n=n):
                rows = worked.CHARACTERS[n]
                expected = [len(rows)] + [v for row in rows for v in row]
                self.assertEqual(ask_at(n, [chars()]), [expected])

    def test_char(self):
        for n in ALL_ROUNDS:
            with self.subTest(n=n):
                rows = worked.CHARACTERS[n]
                calls = [char(i) for i in range(len(rows))]
                self.assertEqual(ask_at(n, calls), [list(row) for row in rows])

    def test_value_of_each_unit(self):
        for n in ALL_ROUNDS:
            with self.subTest(n=n):
                calls = []
                expected = []
                for i, row in enumerate(worked.CHARACTERS[n]):
                    for u, v in zip(worked.UNITS[n], row):
                        calls.append(value(i, u))
                        expected.append([v])
                self.assertEqual(ask_at(n, calls), expected)

    def test_value_is_told_round_n(self):
        for n in ALL_ROUNDS:
            with self.subTest(n=n):
                highest = MOST // n * n - n
                calls = []
                expected = []
                for i, row in enumerate(worked.CHARACTERS[n]):
                    for u, v in zip(worked.UNITS[n], row):
                        calls.extend([value(i, u + n), value(i, u + 100 * n), value(i, u + highest)])
                        expected.extend([[v], [v], [v]])
                self.assertEqual(ask_at(n, calls), expected)

    def test_value_at_the_highest_number(self):
        # 4294967295 is 3 * 5 * 17 * 257 * 65537; what it leaves: 1, 3, 3, 7, 3, 3 and 8 at these n.
        expected = {2: [[0]], 4: [[0], [1]], 7: [[0], [3], [1], [4], [2], [5]],
                    8: [[0], [1], [1], [0]],
                    11: [[v] for v in (0, 8, 6, 4, 2, 0, 8, 6, 4, 2)],
                    13: [[v] for v in (0, 3, 6, 9, 0, 3, 6, 9, 0, 3, 6, 9)]}
        left = {2: 1, 4: 3, 7: 3, 8: 7, 11: 3, 13: 8}
        for n, answers in expected.items():
            with self.subTest(n=n):
                self.assertEqual(MOST % n, left[n])
                calls = [value(i, MOST) for i in range(len(answers))]
                self.assertEqual(ask_at(n, calls), answers)

    def test_product(self):
        for n in ALL_ROUNDS:
            with self.subTest(n=n):
                numbers = range(len(worked.CHARACTERS[n]))
                pairs = [(i, j) for i in numbers for j in numbers]
                expected = [[worked.product(n, i, j)] for i, j in pairs]
                self.assertEqual(ask_at(n, [product(i, j) for i, j in pairs]), expected)

    def test_inverse(self):
        for n in ALL_ROUNDS:
            with self.subTest(n=n):
                numbers = range(len(worked.CHARACTERS[n]))
                expected = [[worked.inverse(n, i)] for i in numbers]
                self.assertEqual(ask_at(n, [inverse(i) for i in numbers]), expected)

    def test_from(self):
        for n in ALL_ROUNDS:
            with self.subTest(n=n):
                numbers = range(len(worked.CHARACTERS[n]))
                expected = [[d] for d in worked.ORIGINS[n]]
                self.assertEqual(ask_at(n, [from_what(i) for i in numbers]), expected)


if __name__ == "__main__":
    unittest.main()
