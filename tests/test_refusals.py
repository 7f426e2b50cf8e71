"""Points 1 and 2 of the promises."""

import unittest

from support import (ALL_ROUNDS, MOST, ask, ask_at, char, chars, circle, even, from_what, gauss, inverse, jacobi,
                     product, round_of, size, sums, value)
import worked

NO_ROUND = (0, 1, 14, 15, 26, MOST - 1, MOST)
NO_CIRCLE = (0, 201, MOST)


def too_high(n):
    how_many = len(worked.CHARACTERS[n])
    return (how_many, how_many + 1, how_many + n, 1000, MOST)


def telling(n):
    """Calls whose answers together tell which n it is, and that nothing else was changed."""
    last = len(worked.CHARACTERS[n]) - 1
    return [chars(), char(last), value(last, n + 1), value(last, n - 1), value(last, n), product(last, last),
            inverse(last), from_what(last), char(last + 1), gauss(last, 1), size(last, n - 1), jacobi(last, 0),
            circle(n), even(last), sums(), even(last + 1)]


def refused(n):
    """Each kind of refusal that there is round n."""
    high = len(worked.CHARACTERS[n])
    calls = [(round_of(m), -1) for m in (0, 1, 14, MOST)]
    calls += [(circle(m), -1) for m in NO_CIRCLE]
    calls += [(call(i), -2) for call in (char, inverse, from_what, even) for i in (high, MOST)]
    calls += [(call(i, 1), -2) for call in (value, gauss, size) for i in (high, MOST)]
    calls += [(call(i, 0), -2) for call in (product, jacobi) for i in (high, MOST)]
    calls += [(call(0, i), -2) for call in (product, jacobi) for i in (high, MOST)]
    calls += [(value(0, 0), -3), (value(0, n), -3), (value(high - 1, MOST // n * n), -3)]
    return calls


def units_not(n):
    return [a for a in range(n) if a not in worked.UNITS[n]]


class RoundRefusalTest(unittest.TestCase):
    def test_no_such_round(self):
        for n in NO_ROUND:
            with self.subTest(n=n):
                self.assertEqual(ask(round_of(n)), [[-1]])

    def test_ends_are_taken(self):
        self.assertEqual(ask(round_of(2), round_of(13)), [[1, 1, 2], [12, 12, 156]])

    def test_all_is_as_it_was(self):
        for before in ALL_ROUNDS:
            calls = telling(before)
            expected = ask(round_of(before), *calls)[1:]
            for n in NO_ROUND:
                with self.subTest(before=before, n=n):
                    told = ask(round_of(before), round_of(n), *calls)
                    self.assertEqual(told[1], [-1])
                    self.assertEqual(told[2:], expected)

    def test_at_the_beginning_too(self):
        for n in NO_ROUND:
            with self.subTest(n=n):
                self.assertEqual(ask(round_of(n), chars(), char(1)), [[-1], [1, 0], [-2]])


class CircleRefusalTest(unittest.TestCase):
    def test_no_such_circle_and_all_is_as_it_was(self):
        for n in ALL_ROUNDS:
            calls = telling(n)
            expected = ask_at(n, calls)
            for m in NO_CIRCLE:
                with self.subTest(n=n, m=m):
                    told = ask_at(n, [circle(m)] + calls)
                    self.assertEqual(told[0], [-1])
                    self.assertEqual(told[1:], expected)


class CharacterRefusalTest(unittest.TestCase):
    def test_one_number(self):
        for n in ALL_ROUNDS:
            for call in (char, inverse, from_what, even):
                for i in too_high(n):
                    with self.subTest(n=n, call=call.__name__, i=i):
                        self.assertEqual(ask_at(n, [call(i)]), [[-2]])

    def test_last_one_is_there(self):
        for n in ALL_ROUNDS:
            with self.subTest(n=n):
                last = len(worked.CHARACTERS[n]) - 1
                told = ask_at(n, [char(last), value(last, 1), product(last, last), inverse(last), from_what(last),
                                  gauss(last, 0), size(last, 0), jacobi(last, last), even(last)])
                self.assertTrue(all(answer[0] >= 0 for answer in told))

    def test_two_characters(self):
        for n in ALL_ROUNDS:
            last = len(worked.CHARACTERS[n]) - 1
            for call in (product, jacobi):
                for i in too_high(n):
                    with self.subTest(n=n, call=call.__name__, i=i):
                        pairs = [call(i, 0), call(0, i), call(i, last), call(last, i), call(i, i)]
                        self.assertEqual(ask_at(n, pairs), [[-2]] * 5)

    def test_sum_for_a(self):
        for n in ALL_ROUNDS:
            for call in (gauss, size):
                for i in too_high(n):
                    with self.subTest(n=n, call=call.__name__, i=i):
                        calls = [call(i, a) for a in (0, 1, n - 1, n, n + 1, MOST)]
                        self.assertEqual(ask_at(n, calls), [[-2]] * len(calls))

    def test_value(self):
        for n in ALL_ROUNDS:
            for i in too_high(n):
                with self.subTest(n=n, i=i):
                    calls = [value(i, u) for u in worked.UNITS[n]]
                    self.assertEqual(ask_at(n, calls), [[-2]] * len(calls))

    def test_not_a_unit(self):
        for n in ALL_ROUNDS:
            for i in range(len(worked.CHARACTERS[n])):
                with self.subTest(n=n, i=i):
                    highest = MOST // n * n - n
                    calls = []
                    for a in units_not(n):
                        calls.extend([value(i, a), value(i, a + n), value(i, a + highest)])
                    self.assertEqual(ask_at(n, calls), [[-3]] * len(calls))

    def test_highest_number_not_a_unit(self):
        # 3 and 5 divide 4294967295, so it has a divisor in common with each of these n.
        for n in (3, 5, 6, 9, 10, 12):
            with self.subTest(n=n):
                self.assertEqual(ask_at(n, [value(0, MOST), value(1, MOST)]), [[-3], [-3]])

    def test_no_such_character_goes_ahead_of_not_a_unit(self):
        for n in ALL_ROUNDS:
            for i in too_high(n):
                with self.subTest(n=n, i=i):
                    calls = [value(i, a) for a in units_not(n)] + [value(i, n), value(i, MOST // n * n)]
                    self.assertEqual(ask_at(n, calls), [[-2]] * len(calls))

    def test_a_refusal_changes_nothing(self):
        for n in ALL_ROUNDS:
            calls = telling(n)
            expected = ask_at(n, calls)
            for call, refusal in refused(n):
                with self.subTest(n=n, call=call):
                    told = ask_at(n, [call] + calls)
                    self.assertEqual(told[0], [refusal])
                    self.assertEqual(told[1:], expected)


if __name__ == "__main__":
    unittest.main()
