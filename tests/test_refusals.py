"""Points 1 and 2 of the promises, as far as these calls go."""

import unittest

from support import ALL_ROUNDS, MOST, ask, ask_at, char, chars, from_what, inverse, product, round_of, value
import worked

NO_ROUND = (0, 1, 14, 15, 26, MOST - 1, MOST)


def too_high(n):
    how_many = len(worked.CHARACTERS[n])
    return (how_many, how_many + 1, how_many + n, 1000, MOST)


def units_not(n):
    return [a for a in range(n) if a not in worked.UNITS[n]]


class RoundRefusalTest(unittest.TestCase):
    def test_no_such_round(self):
        for n in NO_ROUND:
            with self.subTest(n=n):
                self.assertEqual(ask(round_of(n)), [[-1]])

    def test_ends_are_taken(self):
        self.assertEqual(ask(round_of(2), round_of(13)), [[1, 1, 2], [12, 12, 156]])

    def test_all_is_as_it_was(self):
        for before in ALL_ROUNDS:
            last = len(worked.CHARACTERS[before]) - 1
            calls = [chars(), char(last), value(last, before + 1), value(last, before - 1), value(last, before),
                     product(last, last), inverse(last), from_what(last), char(last + 1)]
            expected = ask(round_of(before), *calls)[1:]
            for n in NO_ROUND:
                with self.subTest(before=before, n=n):
                    told = ask(round_of(before), round_of(n), *calls)
                    self.assertEqual(told[1], [-1])
                    self.assertEqual(told[2:], expected)

    def test_at_the_beginning_too(self):
        for n in NO_ROUND:
            with self.subTest(n=n):
                self.assertEqual(ask(round_of(n), chars(), char(1)), [[-1], [1, 0], [-2]])


class CharacterRefusalTest(unittest.TestCase):
    def test_one_number(self):
        for n in ALL_ROUNDS:
            for call in (char, inverse, from_what):
                for i in too_high(n):
                    with self.subTest(n=n, call=call.__name__, i=i):
                        self.assertEqual(ask_at(n, [call(i)]), [[-2]])

    def test_last_one_is_there(self):
        for n in ALL_ROUNDS:
            with self.subTest(n=n):
                last = len(worked.CHARACTERS[n]) - 1
                told = ask_at(n, [char(last), value(last, 1), product(last, last), inverse(last), from_what(last)])
                self.assertTrue(all(answer[0] >= 0 for answer in told))

    def test_product(self):
        for n in ALL_ROUNDS:
            last = len(worked.CHARACTERS[n]) - 1
            for i in too_high(n):
                with self.subTest(n=n, i=i):
                    pairs = [product(i, 0), product(0, i), product(i, last), product(last, i), product(i, i)]
                    self.assertEqual(ask_at(n, pairs), [[-2]] * 5)

    def test_value(self):
        for n in ALL_ROUNDS:
            for i in too_high(n):
                with self.subTest(n=n, i=i):
                    calls = [value(i, u) for u in worked.UNITS[n]]
                    self.assertEqual(ask_at(n, calls), [[-2]] * len(calls))

    def test_not_a_unit(self):
        for n in ALL_ROUNDS:
            for i in range(len(worked.CHARACTERS[n])):
                with self.subTest(n=n, i=i):
                    highest = MOST // n * n - n
                    calls = []
                    for a in units_not(n):
                        calls.extend([value(i, a), value(i, a + n), value(i, a + highest)])
                    self.assertEqual(ask_at(n, calls), [[-3]] * len(calls))

    def test_highest_number_not_a_unit(self):
        # 3 and 5 divide 4294967295, so it has a divisor in common with each of these n.
        for n in (3, 5, 6, 9, 10, 12):
            with self.subTest(n=n):
                self.assertEqual(ask_at(n, [value(0, MOST), value(1, MOST)]), [[-3], [-3]])

    def test_no_such_character_goes_ahead_of_not_a_unit(self):
        for n in ALL_ROUNDS:
            for i in too_high(n):
                with self.subTest(n=n, i=i):
                    calls = [value(i, a) for a in units_not(n)] + [value(i, n), value(i, MOST // n * n)]
                    self.assertEqual(ask_at(n, calls), [[-2]] * len(calls))

    def test_a_refusal_changes_nothing(self):
        for n in ALL_ROUNDS:
            how_many = len(worked.CHARACTERS[n])
            expected = ask_at(n, [chars()])
            for call in (char(how_many), value(how_many, 1), value(0, 0), product(0, how_many),
                         inverse(MOST), from_what(how_many)):
                with self.subTest(n=n, call=call):
                    told = ask_at(n, [call, chars()])
                    self.assertLess(told[0][0], 0)
                    self.assertEqual(told[1:], expected)


if __name__ == "__main__":
    unittest.main()
