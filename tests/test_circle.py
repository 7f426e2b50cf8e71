"""The circle's for m: point 1 of the promises, and its numbers at every m."""

import math
import unittest

from support import ALL_ROUNDS, MOST, ask, ask_at, chars, circle, round_of

ALL_CIRCLES = range(1, 201)
NO_CIRCLE = (0, 201, 202, 400, MOST - 1, MOST)

# From the power 0 on.
WORKED = {
    1: (-1, 1),
    2: (1, 1),
    3: (1, 1, 1),
    4: (1, 0, 1),
    5: (1, 1, 1, 1, 1),
    6: (1, -1, 1),
    8: (1, 0, 0, 0, 1),
    9: (1, 0, 0, 1, 0, 0, 1),
    10: (1, -1, 1, -1, 1),
    12: (1, 0, -1, 0, 1),
    15: (1, -1, 0, 1, -1, 1, 0, -1, 1),
    18: (1, 0, 0, -1, 0, 0, 1),
    20: (1, 0, -1, 0, 1, 0, -1, 0, 1),
    21: (1, -1, 0, 1, -1, 0, 1, 0, -1, 1, 0, -1, 1),
    24: (1, 0, 0, 0, -1, 0, 0, 0, 1),
    30: (1, 1, 0, -1, -1, -1, 0, 1, 1),
    42: (1, 1, 0, -1, -1, 0, 1, 0, -1, -1, 0, 1, 1),
    105: (1, 1, 1, 0, 0, -1, -1, -2, -1, -1, 0, 0, 1, 1, 1, 1, 1, 1, 0, 0, -1, 0, -1, 0, -1, 0, -1, 0, -1, 0, 0,
          1, 1, 1, 1, 1, 1, 0, 0, -1, -1, -2, -1, -1, 0, 0, 1, 1, 1),
    128: (1,) + (0,) * 63 + (1,),
    194: (1, -1) * 48 + (1,),
    199: (1,) * 199,
    200: (1,) + ((0,) * 19 + (-1,) + (0,) * 19 + (1,)) * 2,
}


def circles():
    told = ask_at(2, [circle(m) for m in ALL_CIRCLES])
    return {m: answer[1:] for m, answer in zip(ALL_CIRCLES, told)}


def multiplied(one, other):
    numbers = [0] * (len(one) + len(other) - 1)
    for i, v in enumerate(one):
        for j, w in enumerate(other):
            numbers[i + j] += v * w
    return numbers


class CircleTest(unittest.TestCase):
    def test_worked(self):
        for m, numbers in WORKED.items():
            with self.subTest(m=m):
                self.assertEqual(ask(circle(m)), [[len(numbers)] + list(numbers)])

    def test_how_many(self):
        told = ask_at(2, [circle(m) for m in ALL_CIRCLES])
        for m, answer in zip(ALL_CIRCLES, told):
            with self.subTest(m=m):
                degree = len([k for k in range(1, m + 1) if math.gcd(k, m) == 1])
                self.assertEqual(answer[0], degree + 1)
                self.assertEqual(len(answer), degree + 2)

    def test_those_of_all_divisors_multiply_to_the_whole(self):
        # By this alone each is told, from 1 on: x to the power of m, less 1, divided by all the others.
        told = circles()
        for m in ALL_CIRCLES:
            with self.subTest(m=m):
                whole = [1]
                for d in range(1, m + 1):
                    if m % d == 0:
                        whole = multiplied(whole, told[d])
                self.assertEqual(whole, [-1] + [0] * (m - 1) + [1])

    def test_where_numbers_are_beyond_1(self):
        beyond = {m: (min(numbers), max(numbers)) for m, numbers in circles().items()
                  if min(numbers) < -1 or max(numbers) > 1}
        self.assertEqual(beyond, {105: (-2, 1), 165: (-1, 2), 195: (-2, 1)})

    def test_the_same_whatever_n_is(self):
        for n in ALL_ROUNDS:
            with self.subTest(n=n):
                calls = [circle(m) for m in WORKED]
                self.assertEqual(ask_at(n, calls), [[len(row)] + list(row) for row in WORKED.values()])

    def test_n_stays(self):
        for n in ALL_ROUNDS:
            with self.subTest(n=n):
                told = ask(round_of(n), chars(), circle(12), circle(n), circle(200), chars())
                self.assertEqual(told[5], told[1])


class CircleRefusalTest(unittest.TestCase):
    def test_no_such_circle(self):
        for m in NO_CIRCLE:
            with self.subTest(m=m):
                self.assertEqual(ask(circle(m)), [[-1]])

    def test_no_such_circle_whatever_n_is(self):
        for n in ALL_ROUNDS:
            with self.subTest(n=n):
                self.assertEqual(ask_at(n, [circle(m) for m in NO_CIRCLE]), [[-1]] * len(NO_CIRCLE))

    def test_ends_are_taken(self):
        self.assertEqual(ask(circle(1), circle(200)), [[2, -1, 1], [81] + list(WORKED[200])])


if __name__ == "__main__":
    unittest.main()
