"""How lists of calls are read, and what they may not leave behind."""

import unittest

from rootsums.characters import answers
from support import (ALL_ROUNDS, MOST, ask, char, chars, circle, even, from_what, gauss, inverse, jacobi, product,
                     round_of, size, split_up, sums, value, written)
import worked

# All that n = 2 answers: one unit, 1, and one character, which gives it 0.
AT_THE_BEGINNING = (
    (round_of(2), [1, 1, 2]),
    (round_of(14), [-1]),
    (chars(), [1, 0]),
    (char(0), [0]),
    (char(1), [-2]),
    (value(0, 1), [0]),
    (value(0, MOST), [0]),
    (value(0, 2), [-3]),
    (value(0, 0), [-3]),
    (value(1, 0), [-2]),
    (product(0, 0), [0]),
    (product(0, 1), [-2]),
    (product(1, 0), [-2]),
    (inverse(0), [0]),
    (inverse(1), [-2]),
    (from_what(0), [1]),
    (from_what(1), [-2]),
    (gauss(0, 0), [1, 1]),
    (gauss(0, 1), [1, -1]),
    (gauss(0, MOST), [1, -1]),
    (gauss(1, 0), [-2]),
    (size(0, 0), [1, 1]),
    (size(0, 3), [1, 1]),
    (size(1, 0), [-2]),
    (jacobi(0, 0), [1, 0]),
    (jacobi(0, 1), [-2]),
    (jacobi(1, 0), [-2]),
    (circle(0), [-1]),
    (circle(1), [2, -1, 1]),
    (circle(6), [3, 1, -1, 1]),
    (circle(201), [-1]),
    (even(0), [1]),
    (even(1), [-2]),
    (sums(), [1, 1]),
)

MIXED = [round_of(7), chars(), char(2), value(2, 5), value(2, 12), product(2, 3), inverse(3), from_what(1),
         round_of(14), char(5), round_of(12), chars(), char(3), value(3, 6), product(1, 2), inverse(2), from_what(3),
         from_what(2), char(4), round_of(12), char(1), round_of(2), char(0), from_what(0), round_of(9), from_what(3),
         value(1, 14), value(6, 3), value(5, MOST), inverse(1)]

MIXED_TOLD = [[6, 6, 42],
              [6, 0, 0, 0, 0, 0, 0, 0, 0, 3, 0, 3, 3, 0, 2, 1, 4, 5, 3, 0, 2, 4, 4, 2, 0, 0, 4, 2, 2, 4, 0,
               0, 4, 5, 2, 1, 3],
              [0, 2, 1, 4, 5, 3], [5], [5], [5], [4], [7],
              [-1], [0, 4, 5, 2, 1, 3], [4, 2, 12], [4, 0, 0, 0, 0, 0, 0, 1, 1, 0, 1, 0, 1, 0, 1, 1, 0],
              [0, 1, 1, 0], [-3], [3], [2], [12],
              [3], [-2], [4, 2, 12], [0, 0, 1, 1], [1, 1, 2], [0], [1], [6, 6, 18], [3],
              [5], [-2], [-3], [5]]

# All thirteen calls among one another.
THIRTEEN = [gauss(0, 1), round_of(3), gauss(1, 1), size(1, 1), jacobi(1, 1), even(1), sums(), circle(12), round_of(1),
            gauss(1, 2), value(1, 5), round_of(5), jacobi(1, 1), gauss(2, 6), gauss(2, 2), gauss(4, 1), size(2, 5),
            product(2, 3), inverse(1), chars(), char(1), round_of(8), gauss(1, 1), size(3, 3), jacobi(1, 2),
            from_what(2), circle(201), even(3), round_of(4), sums()]

THIRTEEN_TOLD = [[1, -1], [2, 2, 6], [2, -1, 2], [2, 3, 0], [2, 1, 0], [0], [1, 2, 1, 0], [5, 1, 0, -1, 0, 1], [-1],
                 [2, 1, -2], [1], [4, 4, 20], [8, -1, 0, 0, 0, 0, -2, 0, 0], [8, 1, 0, 0, 0, 2, 0, -2, 0],
                 [8, -1, 0, 0, 0, -2, 0, 2, 0], [-2], [8, 0, 0, 0, 0, 0, 0, 0, 0],
                 [1], [3], [4, 0, 0, 0, 0, 0, 1, 3, 2, 0, 2, 2, 0, 0, 3, 1, 2], [0, 1, 3, 2], [4, 2, 8],
                 [4, 0, 2, 0, 2], [4, 8, 0, 0, 0], [4, 0, 0, 0, 0],
                 [4], [-1], [1], [2, 2, 4], [1, 2, 1, 0]]


class BeginningTest(unittest.TestCase):
    def test_any_call_first_and_alone(self):
        for call, expected in AT_THE_BEGINNING:
            with self.subTest(call=call):
                self.assertEqual(answers(list(call)), [len(expected)] + expected)

    def test_all_thirteen_are_first_once(self):
        self.assertEqual({call[0] for call, expected in AT_THE_BEGINNING}, set(range(13)))

    def test_n_is_2_till_the_first_round(self):
        before = [pair for pair in AT_THE_BEGINNING if pair[0] != round_of(2)]
        for at in range(0, len(before), 28):
            part = before[at:at + 28]
            told = ask(*[call for call, expected in part], round_of(5), char(1))
            self.assertEqual(told, [expected for call, expected in part] + [[4, 4, 20], [0, 1, 3, 2]])


class RoundAgainTest(unittest.TestCase):
    def test_to_another_n(self):
        for n in ALL_ROUNDS:
            for later in ALL_ROUNDS:
                with self.subTest(n=n, later=later):
                    last = len(worked.CHARACTERS[later]) - 1
                    told = ask(round_of(n), chars(), round_of(later), char(last), char(last + 1), from_what(last))
                    self.assertEqual(told[2:], [list(worked.ROUNDS[later]), list(worked.CHARACTERS[later][last]),
                                                [-2], [worked.ORIGINS[later][last]]])

    def test_to_the_same_n(self):
        for n in ALL_ROUNDS:
            with self.subTest(n=n):
                told = ask(round_of(n), chars(), round_of(n), chars())
                self.assertEqual(told[:2], told[2:])
                self.assertEqual(told[0], list(worked.ROUNDS[n]))

    def test_sums_are_those_of_the_later_n(self):
        for n in ALL_ROUNDS:
            calls = [gauss(0, 1), size(0, 1), jacobi(0, 0), even(0), sums()]
            expected = ask(round_of(n), *calls)[1:]
            for before in ALL_ROUNDS:
                with self.subTest(before=before, n=n):
                    told = ask(round_of(before), *calls, round_of(n), *calls)
                    self.assertEqual(told[7:], expected)

    def test_back_and_forth(self):
        told = ask(round_of(13), round_of(3), chars(), round_of(13), char(1))
        self.assertEqual(told[2], [2, 0, 0, 0, 1])
        self.assertEqual(told[4], list(worked.CHARACTERS[13][1]))


class ListTest(unittest.TestCase):
    def test_thirty_calls(self):
        self.assertEqual(len(MIXED), 30)
        self.assertEqual(ask(*MIXED), MIXED_TOLD)

    def test_all_thirteen_among_one_another(self):
        self.assertEqual(len(THIRTEEN), 30)
        self.assertEqual({call[0] for call in THIRTEEN}, set(range(13)))
        self.assertEqual(ask(*THIRTEEN), THIRTEEN_TOLD)

    def test_thirty_sizes(self):
        # The character 1 comes from 13 itself, and 5 and 18 are units round it.
        told = ask(round_of(13), *[size(1, 5), size(1, 18)] * 14, circle(200))
        self.assertEqual(told[1:29], [[48, 13] + [0] * 47] * 28)
        self.assertEqual(told[29][:2], [81, 1])

    def test_thirty_of_the_longest(self):
        told = ask(round_of(13), *[chars()] * 29)
        expected = [12] + [v for row in worked.CHARACTERS[13] for v in row]
        self.assertEqual(told[1:], [expected] * 29)

    def test_thirty_rounds(self):
        order = [n for n in range(15)] * 2
        expected = [list(worked.ROUNDS.get(n, (-1,))) for n in order]
        self.assertEqual(ask(*[round_of(n) for n in order]), expected)

    def test_written_out(self):
        self.assertEqual(answers([0, 5, 2, 1, 3, 1, 8, 3, 1, 10, 4, 2, 3, 5, 1, 6, 0, 1]),
                         [3, 4, 4, 20, 4, 0, 1, 3, 2, 1, 3, 1, -3, 1, 1, 1, 3, 1, 1,
                          17, 4, 0, 0, 0, 0, 0, 1, 3, 2, 0, 2, 2, 0, 0, 3, 1, 2])

    def test_what_is_handed_in_stays(self):
        for calls in [[call] for call, expected in AT_THE_BEGINNING] + [MIXED, THIRTEEN]:
            with self.subTest(calls=calls):
                handed = written(calls)
                answers(handed)
                self.assertEqual(handed, written(calls))

    def test_the_same_twice(self):
        for calls in (MIXED, THIRTEEN):
            handed = written(calls)
            first = answers(handed)
            kept = list(first)
            first.clear()
            self.assertEqual(answers(handed), kept)

    def test_nothing_is_kept_from_a_list_before(self):
        ask(round_of(13), chars())
        self.assertEqual(ask(chars()), [[1, 0]])
        self.assertEqual(ask(gauss(0, 1), gauss(1, 1), sums()), [[1, -1], [-2], [1, 1]])

    def test_plain_whole_numbers(self):
        for calls, expected in ((MIXED, MIXED_TOLD), (THIRTEEN, THIRTEEN_TOLD)):
            told = answers(written(calls))
            self.assertIs(type(told), list)
            self.assertEqual({type(number) for number in told}, {int})
            self.assertEqual(split_up(told), expected)


if __name__ == "__main__":
    unittest.main()
