"""Promise 1: er_corners."""

import unittest

from known_bodies import KNOWN, NOT_BODIES, flat, mask
from wholepoints.bodies import er_corners


class Corners(unittest.TestCase):
    def test_known_bodies(self):
        for name, d, points, corners, sides in KNOWN:
            with self.subTest(name):
                self.assertEqual(er_corners(flat(d, points)), [mask(corners)])

    def test_the_mask_counts_places_from_0(self):
        self.assertEqual(er_corners([1, 3, 0, -4, 4]), [6])
        self.assertEqual(er_corners([1, 3, 4, -4, 0]), [3])

    def test_corners_told_twice_all_count(self):
        self.assertEqual(er_corners([1, 12] + [0] * 6 + [1] * 6), [4095])
        self.assertEqual(er_corners(flat(2, [(0, 0), (1, 0), (0, 1), (0, 1), (1, 0), (0, 0)])), [63])

    def test_points_told_twice_that_are_no_corners_do_not_count(self):
        self.assertEqual(er_corners([1, 12, 0] + [1] * 10 + [2]), [1 + 2048])
        square = [(0, 0), (2, 0), (0, 2), (2, 2)]
        self.assertEqual(er_corners(flat(2, [(1, 1), (1, 1)] + square + [(2, 1), (2, 1)])), [4 + 8 + 16 + 32])

    def test_points_on_an_edge_of_a_cube_do_not_count(self):
        cube = [(x, y, z) for x in (-4, 4) for y in (-4, 4) for z in (-4, 4)]
        more = [(4, 4, 3), (-4, 0, -4), (-3, 4, 4), (0, 4, 1)]
        self.assertEqual(er_corners(flat(3, more + cube)), [4095 - 15])

    def test_no_bodies(self):
        for name, body in NOT_BODIES:
            with self.subTest(name):
                self.assertEqual(er_corners(body), [-2])


if __name__ == "__main__":
    unittest.main()
