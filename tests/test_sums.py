"""Promise 7: er_sums."""

import unittest

from known_bodies import NOT_BODIES, flat
from known_counts import COUNTED, moved
from slow_search import Mixes, spans, spread
from wholepoints.bodies import er_sums

# By hand, of the bodies in known_counts; for those not told here it's 0.
NOT_ALL_SUMS = {
    # Two times it has (1, 1, 1) and (1, 1, 2) inside, but two corners that make such a sum there aren't.
    "leaning tetrahedron": [2, 1, 1, 1, 0, 2],
    # The same, (1, 1, 1 - 8) to (1, 1, 7 - 8).
    "leaning tetrahedron, the highest": [2, 1, 1, -7, 0, 2],
    # At x of 1 two times it has a parallelogram with the corners (-5, -2), (2, 3), (6, -2), (-1, -7). Only these are
    # sums; behind y = -5 comes y = -4, from z = -2 - 5/4 to z = -2 + 5/7.
    "large tetrahedron of corners alone": [2, 1, -4, -3, 0, 2],
    # (0, 0, -1) is 1/2 of three corners and 1/2 of the origin; the other 15 of 16 are the sums of two of five.
    "tetrahedron round the origin": [2, 0, 0, -1, 0, 2],
}

LEANING = [(0, 0, 0), (1, 0, 0), (0, 1, 0), (1, 1, 2)]
HIGHER = [(0, 0, 0), (1, 0, 0), (0, 1, 0), (1, 1, 3)]

# d, the points, the answer: two times the way a body is moved is added to the point.
MORE = [
    (3, LEANING, [2, 1, 1, 1, 0, 2]),
    (3, moved(LEANING, (-4, -4, -4)), [2, -7, -7, -7, 0, 2]),
    (3, moved(HIGHER, (-3, -3, -2)), [2, -5, -5, -3, 0, 2]),
    (3, moved(HIGHER, (3, -4, 1)), [2, 7, -7, 3, 0, 2]),
    (3, [(x, y, -z) for x, y, z in HIGHER], [2, 1, 1, -2, 0, 2]),
    (3, [(z, x, y) for x, y, z in HIGHER], [2, 1, 1, 1, 0, 2]),
    (3, [(-z, x, -y) for x, y, z in HIGHER], [2, -2, 1, -1, 0, 2]),
    (3, HIGHER + HIGHER, [2, 1, 1, 1, 0, 2]),
    # (1, 1, 1) is the middle of all corners, two times, and all sums of two corners are even together.
    (3, [(0, 0, 0), (1, 1, 0), (1, 0, 1), (0, 1, 1)], [2, 1, 1, 1, 0, 2]),
    # A smallest tetrahedron, and three of them round the edge from the origin to (1, 1, 1).
    (3, [(0, 0, 0), (1, 0, 0), (0, 1, 0), (1, 1, 1)], [0]),
    (3, LEANING + [(1, 1, 1)], [0]),
    (1, [(-4,), (4,)], [0]),
    (2, [(-4, -3), (3, 4), (4, -4)], [0]),
    (2, [(0, 0), (1, 4), (4, 1)], [0]),
]


class Sums(unittest.TestCase):
    def test_known_bodies(self):
        for name, d, points, counts, poly in COUNTED:
            with self.subTest(name):
                self.assertEqual(er_sums(flat(d, points)), NOT_ALL_SUMS.get(name, [0]))

    def test_more_bodies(self):
        for d, points, answer in MORE:
            for told in (points, points[::-1]):
                with self.subTest(told):
                    self.assertEqual(er_sums(flat(d, told)), answer)

    def test_no_bodies(self):
        for name, body in NOT_BODIES:
            with self.subTest(name):
                self.assertEqual(er_sums(body), [-2])


class SumsByWords(unittest.TestCase):
    def sums(self, d, points, last):
        """The answer, if it's told by t of 2 to last."""
        mixes = Mixes(points)
        parts = mixes.whole(1)
        made = set(parts)
        for t in range(2, last + 1):
            made = {tuple(x + y for x, y in zip(one, part)) for one in made for part in parts}
            for point in mixes.whole(t):
                if point not in made:
                    return [t] + list(point) + [0] * (4 - d) + [t]
        return [0]

    def check(self, asked, last, kinds):
        met = {}
        for points in asked:
            d = len(points[0])
            if spans(points, d + 1):
                answer = self.sums(d, points, last)
                self.assertEqual(er_sums(flat(d, points)), answer, points)
                met[answer[0]] = True
        self.assertEqual(sorted(met), kinds)

    def test_one_dimension(self):
        self.check([spread(1, 2, -4, 4, start) for start in range(30)], 6, [0])

    def test_plane(self):
        self.check([spread(2, 3 + start % 2, -2, 2, start) for start in range(60)], 5, [0])

    def test_plane_far_points(self):
        self.check([spread(2, 3, -4, 4, start) for start in range(8)], 3, [0])

    def test_space(self):
        self.check([spread(3, 4 + start % 3, 0, 2, start) for start in range(60)], 3, [0, 2])

    def test_space_far_points(self):
        self.check([spread(3, 4, -2, 2, start) for start in range(25)], 2, [0, 2])

    def test_space_larger_t(self):
        self.check([spread(3, 5, 0, 1, start) for start in range(60)], 5, [0, 2])


if __name__ == "__main__":
    unittest.main()
