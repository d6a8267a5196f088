"""Promise 5: er_star."""

import unittest
from math import comb

from known_bodies import NOT_BODIES, flat
from known_counts import COUNTED
from slow_search import Mixes, spans, spread
from wholepoints.bodies import er_count, er_star

# By hand: h_0 is 1, h_1 the whole points but d + 1, h_d those inside, and all together are d! times how large the
# body is; which leaves one number in space.
STARS = {
    "shortest segment": [1, 1, 0, 0, 0, 0],
    "shortest segment at the far end": [1, 1, 0, 0, 0, 0],
    "segment": [2, 1, 1, 0, 0, 0],
    "segment below 0, points told twice": [2, 1, 1, 0, 0, 0],
    "longest segment": [8, 1, 7, 0, 0, 0],
    "longest segment, points inside": [8, 1, 7, 0, 0, 0],
    "triangle": [1, 1, 0, 0, 0, 0],
    "triangle sheared and moved": [1, 1, 0, 0, 0, 0],
    "triangle of 4 and 2": [8, 1, 6, 1, 0, 0],
    "thin large triangle": [63, 1, 34, 28, 0, 0],
    "triangle away from the origin": [6, 1, 4, 1, 0, 0],
    "triangle, a corner and a point of a side told twice": [4, 1, 3, 0, 0, 0],
    "smallest square": [2, 1, 1, 0, 0, 0],
    "square": [8, 1, 6, 1, 0, 0],
    "square, points on its rim and inside": [8, 1, 6, 1, 0, 0],
    "largest square": [128, 1, 78, 49, 0, 0],
    "square on its corner, its middle told twice": [4, 1, 2, 1, 0, 0],
    "five corners": [20, 1, 12, 7, 0, 0],
    "smallest tetrahedron": [1, 1, 0, 0, 0, 0],
    "smallest tetrahedron, each corner told twice": [1, 1, 0, 0, 0, 0],
    "leaning tetrahedron": [3, 1, 0, 2, 0, 0],
    "leaning tetrahedron, the highest": [8, 1, 0, 7, 0, 0],
    "large tetrahedron of corners alone": [55, 1, 0, 54, 0, 0],
    "tetrahedron round the origin": [5, 1, 1, 2, 1, 0],
    "largest tetrahedron": [512, 1, 161, 315, 35, 0],
    "smallest cube": [6, 1, 4, 1, 0, 0],
    "cube round the origin": [48, 1, 23, 23, 1, 0],
    "largest cube": [3072, 1, 725, 2003, 343, 0],
    "octahedron": [8, 1, 3, 3, 1, 0],
    "octahedron moved, its middle told twice": [8, 1, 3, 3, 1, 0],
    "pyramid, the middle of its base told": [8, 1, 6, 1, 0, 0],
    "prism": [3, 1, 2, 0, 0, 0],
}


def value(star, d, t):
    return sum(h * comb(t + d - j, d) for j, h in enumerate(star[:d + 1]))


class Star(unittest.TestCase):
    def test_known_bodies(self):
        for name, d, points, counts, poly in COUNTED:
            with self.subTest(name):
                self.assertEqual(er_star(flat(d, points)), STARS[name])

    def test_the_form(self):
        for name, d, points, counts, poly in COUNTED:
            with self.subTest(name):
                answer = er_star(flat(d, points))
                self.assertEqual(len(answer), 6)
                self.assertEqual(answer[0], sum(answer[1:]))
                self.assertEqual(answer[1], 1)
                self.assertEqual(answer[2 + d:], [0] * (4 - d))

    def test_the_values_are_the_counts(self):
        for name, d, points, counts, poly in COUNTED:
            body = flat(d, points)
            star = er_star(body)[1:]
            for t in range(4):
                with self.subTest(name, t=t):
                    self.assertEqual(value(star, d, t), er_count(t, body)[1])
                    self.assertEqual(value(star, d, t), counts[3 + t])

    def test_values_by_words(self):
        asked = [spread(1, 4, -4, 4, start) for start in range(10)]
        asked += [spread(2, 5, -2, 2, start) for start in range(20)]
        asked += [spread(3, 6, 0, 1, start) for start in range(20)]
        for points in asked:
            d = len(points[0])
            if spans(points, d + 1):
                mixes = Mixes(points)
                star = er_star(flat(d, points))[1:]
                for t in (1, 2, 3, 4):
                    with self.subTest(points, t=t):
                        self.assertEqual(value(star, d, t), mixes.count(t))

    def test_no_bodies(self):
        for name, body in NOT_BODIES:
            with self.subTest(name):
                self.assertEqual(er_star(body), [-2])


if __name__ == "__main__":
    unittest.main()
