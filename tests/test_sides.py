"""Promise 2: er_sides."""

import unittest

from known_bodies import KNOWN, NOT_BODIES, flat, rows
from wholepoints.bodies import er_sides


class Sides(unittest.TestCase):
    def test_known_bodies(self):
        for name, d, points, corners, sides in KNOWN:
            with self.subTest(name):
                self.assertEqual(er_sides(1000000, flat(d, points)), rows(d, sides))

    def test_just_as_many_as_most(self):
        for name, d, points, corners, sides in KNOWN:
            with self.subTest(name):
                self.assertEqual(er_sides(len(sides), flat(d, points)), rows(d, sides))

    def test_more_than_most(self):
        for name, d, points, corners, sides in KNOWN:
            for most in (len(sides) - 1, 1, 0):
                with self.subTest(name, most=most):
                    self.assertEqual(er_sides(most, flat(d, points)), [-1])

    def test_rows_of_five_written_out(self):
        self.assertEqual(er_sides(2, [1, 2, 3, -2]), [2, -1, 0, 0, 0, 2, 1, 0, 0, 0, 3])
        self.assertEqual(
            er_sides(3, [2, 3, 0, 0, 4, 0, 0, 2]),
            [3, -1, 0, 0, 0, 0, 0, -1, 0, 0, 0, 1, 2, 0, 0, 4],
        )
        self.assertEqual(
            er_sides(4, [3, 4, 0, 0, 0, 1, 0, 0, 0, 1, 0, 1, 1, 3]),
            [4, -3, 0, 1, 0, 0, 0, -3, 1, 0, 0, 0, 0, -1, 0, 0, 3, 3, -1, 0, 3],
        )
        self.assertEqual(
            er_sides(5, [4, 5, 0, 0, 0, 0, 2, 0, 0, 0, 0, 2, 0, 0, 0, 0, 2, 0, 0, 0, 0, 2]),
            [5, -1, 0, 0, 0, 0, 0, -1, 0, 0, 0, 0, 0, -1, 0, 0, 0, 0, 0, -1, 0, 1, 1, 1, 1, 2],
        )

    def test_the_order_of_the_points_does_not_matter(self):
        for name, d, points, corners, sides in KNOWN:
            with self.subTest(name):
                self.assertEqual(er_sides(1000000, flat(d, points[::-1])), rows(d, sides))

    def test_no_bodies_whatever_most_is(self):
        for name, body in NOT_BODIES:
            for most in (0, 1, 2, 1000000):
                with self.subTest(name, most=most):
                    self.assertEqual(er_sides(most, body), [-2])


if __name__ == "__main__":
    unittest.main()
