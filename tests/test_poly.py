"""Promise 4: er_poly."""

import unittest
from math import factorial

from known_bodies import NOT_BODIES, flat
from known_counts import COUNTED
from slow_search import Mixes, spans, spread
from wholepoints.bodies import er_count, er_poly


def value(numbers, t):
    return sum(number * t ** place for place, number in enumerate(numbers))


class Poly(unittest.TestCase):
    def test_known_bodies(self):
        for name, d, points, counts, poly in COUNTED:
            with self.subTest(name):
                self.assertEqual(er_poly(flat(d, points)), [0] + poly)

    def test_the_values_are_the_counts(self):
        for name, d, points, counts, poly in COUNTED:
            body = flat(d, points)
            numbers = er_poly(body)[1:]
            for t in range(4):
                with self.subTest(name, t=t):
                    self.assertEqual(value(numbers, t), factorial(d) * er_count(t, body)[1])
                    self.assertEqual(value(numbers, t), factorial(d) * counts[3 + t])

    def test_the_values_below_0_are_the_counts_inside(self):
        for name, d, points, counts, poly in COUNTED:
            numbers = er_poly(flat(d, points))[1:]
            for t in (1, 2, 3):
                with self.subTest(name, t=t):
                    self.assertEqual(value(numbers, -t), (-1) ** d * factorial(d) * counts[3 - t])

    def test_five_numbers_and_zeros_behind(self):
        for name, d, points, counts, poly in COUNTED:
            with self.subTest(name):
                answer = er_poly(flat(d, points))
                self.assertEqual(len(answer), 6)
                self.assertEqual(answer[:2], [0, factorial(d)])
                self.assertGreater(answer[1 + d], 0)
                self.assertEqual(answer[2 + d:], [0] * (4 - d))

    def test_larger_t_by_words(self):
        asked = [spread(1, 3, -4, 4, start) for start in range(10)]
        asked += [spread(2, 4, -2, 2, start) for start in range(20)]
        asked += [spread(3, 5, 0, 1, start) for start in range(20)]
        for points in asked:
            d = len(points[0])
            if spans(points, d + 1):
                mixes = Mixes(points)
                numbers = er_poly(flat(d, points))[1:]
                for t in (4, 5):
                    with self.subTest(points, t=t):
                        self.assertEqual(value(numbers, t), factorial(d) * mixes.count(t))

    def test_no_bodies(self):
        for name, body in NOT_BODIES:
            with self.subTest(name):
                self.assertEqual(er_poly(body), [-2])


if __name__ == "__main__":
    unittest.main()
