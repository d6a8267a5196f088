"""Promises 1 and 2 beside a slow search that follows the document's words and none of the program's steps."""

import unittest
from itertools import combinations, combinations_with_replacement, product

from known_bodies import flat, mask, rows
from slow_search import corners_by_words, sides_by_words, spans
from wholepoints.bodies import er_corners, er_sides


class ByWords(unittest.TestCase):
    def check(self, d, points, farthest):
        body = flat(d, points)
        if not spans(points, d + 1):
            self.assertEqual(er_corners(body), [-2], body)
            self.assertEqual(er_sides(1000000, body), [-2], body)
            return
        self.assertEqual(er_corners(body), [mask(corners_by_words(points))], body)
        self.assertEqual(er_sides(1000000, body), rows(d, sides_by_words(d, points, farthest)), body)

    def test_one_dimension(self):
        for n in (1, 2, 3):
            for numbers in product(range(-4, 5), repeat=n):
                self.check(1, [(x,) for x in numbers], 2)

    def test_plane(self):
        grid = list(product(range(3), repeat=2))
        for n in (1, 2, 3, 4):
            for points in combinations_with_replacement(grid, n):
                self.check(2, list(points), 3)

    def test_plane_far_points(self):
        far = [(-4, -4), (4, -3), (-3, 4), (4, 4), (1, -4), (-4, 3), (0, 1), (2, 3)]
        for n in (3, 4, 5, 8):
            for points in combinations(far, n):
                self.check(2, list(points), 8)

    def test_space(self):
        cube = list(product((0, 1), repeat=3))
        for n in range(3, 9):
            for points in combinations(cube, n):
                self.check(3, list(points), 2)

    def test_space_points_not_corners(self):
        points = [(-1, -1, 0), (1, 0, 0), (0, 1, 1), (0, 0, -1), (0, 0, 0), (1, 1, 1), (1, 0, 0), (0, 0, 1)]
        for n in (4, 5, 6, 8):
            for chosen in list(combinations(points, n))[::3]:
                self.check(3, list(chosen), 8)

    def test_four_dimensions(self):
        cube = list(product((0, 1), repeat=4))
        for n, step in ((4, 601), (5, 397), (6, 907), (7, 1901), (8, 2203)):
            for points in list(combinations(cube, n))[::step]:
                self.check(4, list(points), 4)


if __name__ == "__main__":
    unittest.main()
