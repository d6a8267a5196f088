"""Promise 6: er_mirror."""

import unittest
from itertools import product

from known_bodies import NOT_BODIES, flat
from known_counts import COUNTED, OCTAHEDRON, moved
from slow_search import Mixes, sides_by_words, spans, spread
from wholepoints.bodies import er_mirror

NONE_INSIDE = {
    "shortest segment", "shortest segment at the far end", "triangle", "triangle sheared and moved",
    "triangle, a corner and a point of a side told twice", "smallest square", "smallest tetrahedron",
    "smallest tetrahedron, each corner told twice", "leaning tetrahedron", "leaning tetrahedron, the highest",
    "large tetrahedron of corners alone", "smallest cube", "pyramid, the middle of its base told", "prism",
}
MORE_INSIDE = {
    "longest segment", "longest segment, points inside", "thin large triangle", "largest square", "five corners",
    "largest tetrahedron", "largest cube",
}
# The side through (1, 0, 0), (0, 1, 0), (-1, -1, -2) is 2 x + 2 y - 3 z <= 2, and 0 is two less than 2.
ONE_TOO_FAR = {"tetrahedron round the origin"}
MIRRORS = {
    "segment": [1, 2, 0, 0, 0],
    "segment below 0, points told twice": [1, -3, 0, 0, 0],
    "triangle of 4 and 2": [1, 1, 1, 0, 0],
    "triangle away from the origin": [1, 3, 3, 0, 0],
    "square": [1, 1, 1, 0, 0],
    "square, points on its rim and inside": [1, 1, 1, 0, 0],
    "square on its corner, its middle told twice": [1, 0, 0, 0, 0],
    "cube round the origin": [1, 0, 0, 0, 0],
    "octahedron": [1, 0, 0, 0, 0],
    "octahedron moved, its middle told twice": [1, 2, -3, 1, 0],
}

TETRAHEDRON = [(1, 0, 0), (0, 1, 0), (0, 0, 1), (-1, -1, -1)]
TOO_FAR = [(1, 0, 0), (0, 1, 0), (0, 0, 1), (-1, -1, -2)]
DIAMOND = [(1, 0), (-1, 0), (0, 1), (0, -1)]
SIX_CORNERS = [(1, 0), (1, 1), (0, 1), (-1, 0), (-1, -1), (0, -1)]
BIG_CUBE = list(product((-1, 1), repeat=3))

# d, the points, the answer.
MORE = [
    (2, moved(DIAMOND, (-3, 2)), [1, -3, 2, 0, 0]),
    (2, moved(SIX_CORNERS, (3, -3)), [1, 3, -3, 0, 0]),
    (2, [(-1, -1), (2, -1), (-1, 2)], [1, 0, 0, 0, 0]),
    (2, [(-4, -4), (-1, -4), (-4, -1)], [1, -3, -3, 0, 0]),
    (2, [(0, 0), (3, 0), (0, 3), (3, 3)], [0]),
    (2, [(0, 0), (1, 0), (0, 4), (1, 4)], [0]),
    (3, TETRAHEDRON, [1, 0, 0, 0, 0]),
    (3, moved(TETRAHEDRON, (3, -3, 2)), [1, 3, -3, 2, 0]),
    (3, [(-1, -1, -1), (3, -1, -1), (-1, 3, -1), (-1, -1, 3)], [1, 0, 0, 0, 0]),
    (3, [(-4, -4, -4), (0, -4, -4), (-4, 0, -4), (-4, -4, 0)], [1, -3, -3, -3, 0]),
    (3, moved(BIG_CUBE, (3, -2, -3)), [1, 3, -2, -3, 0]),
    (3, moved(OCTAHEDRON, (0, 0, -3)), [1, 0, 0, -3, 0]),
    (3, moved(TOO_FAR, (3, -3, -2)), [0]),
    (3, TOO_FAR + [(0, 0, 0), (0, 0, 0), (0, 0, 1)], [0]),
    # At x of 1 to 2 these have (1, 0, 0) and (2, 0, 0) inside too, or just the first.
    (3, OCTAHEDRON + [(3, 0, 0)], [0]),
    (3, OCTAHEDRON + [(2, 0, 0)], [0]),
]


class Mirror(unittest.TestCase):
    def test_known_bodies(self):
        for name, d, points, counts, poly in COUNTED:
            with self.subTest(name):
                answer = er_mirror(flat(d, points))
                if name in MIRRORS:
                    self.assertEqual(answer, MIRRORS[name])
                    self.assertEqual(counts[2], 1)
                elif name in NONE_INSIDE:
                    self.assertEqual(answer, [0])
                    self.assertEqual(counts[2], 0)
                elif name in MORE_INSIDE:
                    self.assertEqual(answer, [0])
                    self.assertGreater(counts[2], 1)
                else:
                    self.assertIn(name, ONE_TOO_FAR)
                    self.assertEqual(answer, [0])
                    self.assertEqual(counts[2], 1)

    def test_more_bodies(self):
        for d, points, answer in MORE:
            for told in (points, points[::-1]):
                with self.subTest(told):
                    self.assertEqual(er_mirror(flat(d, told)), answer)

    def test_no_bodies(self):
        for name, body in NOT_BODIES:
            with self.subTest(name):
                self.assertEqual(er_mirror(body), [-2])


class MirrorByWords(unittest.TestCase):
    def mirror(self, d, points, farthest):
        """The answer and, as some kinds are to be met, how many are inside."""
        inside = Mixes(points).whole_inside(1)
        if len(inside) != 1:
            return [0], min(len(inside), 2)
        for side in sides_by_words(d, points, farthest):
            if sum(a * x for a, x in zip(side, inside[0])) != side[d] - 1:
                return [0], 1
        return [1] + list(inside[0]) + [0] * (4 - d), 1

    def check(self, asked, farthest, kinds):
        met = {}
        for points in asked:
            d = len(points[0])
            if spans(points, d + 1):
                answer, inside = self.mirror(d, points, farthest)
                self.assertEqual(er_mirror(flat(d, points)), answer, points)
                met[(inside, answer[0])] = True
        self.assertEqual(sorted(met), kinds)

    def test_one_dimension(self):
        self.check([[(x,), (y,)] for x in range(-4, 5) for y in range(-4, 5)], 1, [(0, 0), (1, 1), (2, 0)])

    def test_plane(self):
        self.check([spread(2, 4, -2, 2, start) for start in range(150)], 4, [(0, 0), (1, 1), (2, 0)])

    def test_space(self):
        asked = [spread(3, 5, -1, 1, start) for start in range(60)]
        asked += [[(1, 0, 0), (0, 1, 0), (0, 0, 1)] + spread(3, 1, -2, 0, start) for start in range(20)]
        self.check(asked, 8, [(0, 0), (1, 0), (1, 1)])


if __name__ == "__main__":
    unittest.main()
