"""Promise 8: er_alike."""

import unittest
from itertools import permutations, product

from known_bodies import NOT_BODIES, flat
from known_counts import COUNTED, CUBE, OCTAHEDRON, moved
from slow_search import corners_by_words, solve, spans, spread
from wholepoints.bodies import er_alike


def answer(rows, v):
    """1, the rows of M by four, 0 beyond, then v."""
    d = len(v)
    numbers = [1]
    for row in list(rows) + [[0] * d] * (4 - d):
        numbers += list(row) + [0] * (4 - d)
    return numbers + list(v) + [0] * (4 - d)


def mapped(rows, v, points):
    return [tuple(sum(a * x for a, x in zip(row, point)) + y for row, y in zip(rows, v)) for point in points]


def determinant(rows):
    if len(rows) == 1:
        return rows[0][0]
    if len(rows) == 2:
        return rows[0][0] * rows[1][1] - rows[0][1] * rows[1][0]
    (a, b, c), (d, e, f), (g, h, i) = rows
    return a * e * i + b * f * g + c * d * h - c * e * g - b * d * i - a * f * h


TRIANGLE = [(0, 0), (1, 0), (0, 1)]
# Its sides have 3, 2 and 1 steps between whole points: only the identity takes it to itself.
UNEVEN = [(0, 0), (3, 0), (0, 2)]
SQUARE = [(0, 0), (1, 0), (0, 1), (1, 1)]
DIAMOND = [(1, 0), (-1, 0), (0, 1), (0, -1)]
TETRAHEDRON = [(0, 0, 0), (1, 0, 0), (0, 1, 0), (0, 0, 1)]
ROUND_ORIGIN = list(product((-1, 1), repeat=3))
# Without whole points but their corners, five sixths each. The weights by which (0, 0, 1) is made of the corners are,
# in fifths, 1, 1, -1, -1 for the first and 1, 2, -1, -2 for the others: no multiple of one row is the other.
FIRST_FIFTH = moved([(0, 0, 0), (1, 0, 0), (0, 1, 0), (1, 1, 5)], (0, 0, -1))
SECOND_FIFTH = moved([(0, 0, 0), (1, 0, 0), (0, 1, 0), (1, 2, 5)], (0, 0, -1))
THIRD_FIFTH = moved([(0, 0, 0), (1, 0, 0), (0, 1, 0), (1, 3, 5)], (0, 0, -1))

MINUS = [(-1, 0, 0), (0, -1, 0), (0, 0, -1)]

# The first body, the other, the answer, worked out by hand.
PAIRS = [
    ([(1,), (3,)], [(1,), (3,)], answer([(-1,)], (4,))),
    ([(1,), (3,)], [(-4,), (-2,)], answer([(-1,)], (-1,))),
    ([(1,), (3,)], [(-2,), (-3,), (-4,), (-4,)], answer([(-1,)], (-1,))),
    ([(-4,), (4,)], [(4,), (-4,)], answer([(-1,)], (0,))),
    ([(0,), (1,)], [(0,), (2,)], [0]),
    ([(0,), (2,)], [(0,), (1,)], [0]),

    (TRIANGLE, TRIANGLE, answer([(-1, -1), (0, 1)], (1, 0))),
    (TRIANGLE, [(0, 0), (3, 1), (4, 1)], answer([(-4, -1), (-1, 0)], (4, 1))),
    (TRIANGLE, [(0, 0), (2, 0), (0, 2)], [0]),
    ([(0, 0), (2, 0), (0, 2)], TRIANGLE, [0]),
    (UNEVEN, UNEVEN, answer([(1, 0), (0, 1)], (0, 0))),
    (UNEVEN, moved(UNEVEN, (-4, -3)), answer([(1, 0), (0, 1)], (-4, -3))),
    (UNEVEN, [(0, 0), (0, 3), (-2, 0)], answer([(0, -1), (1, 0)], (0, 0))),
    (UNEVEN, [(1, -2), (1, 1), (-1, -2)], answer([(0, -1), (1, 0)], (1, -2))),
    (UNEVEN, [(0, 2), (0, 0), (-3, 0)], answer([(-1, 0), (0, 1)], (0, 0))),
    (UNEVEN, [(0, 0), (0, 3), (2, 0)], answer([(0, 1), (1, 0)], (0, 0))),
    (UNEVEN, [(0, 0), (3, 0), (2, 2)], answer([(1, 1), (0, 1)], (0, 0))),
    ([(0, 0), (3, 0), (2, 2)], UNEVEN, answer([(1, -1), (0, 1)], (0, 0))),
    (UNEVEN + [(1, 1), (1, 0), (3, 0)], [(2, 2), (3, 0), (0, 0)], answer([(1, 1), (0, 1)], (0, 0))),
    (UNEVEN, [(0, 0), (3, 0), (0, 2), (1, 1), (2, 0), (0, 0)], answer([(1, 0), (0, 1)], (0, 0))),
    (SQUARE, SQUARE, answer([(-1, 0), (0, -1)], (1, 1))),
    (SQUARE, [(1, 1), (0, 1), (0, 0), (1, 0)], answer([(-1, 0), (0, -1)], (1, 1))),
    (SQUARE, [(0, 0), (1, 0), (1, 1), (2, 1)], answer([(-1, -1), (-1, 0)], (2, 1))),
    ([(0, 0), (2, 0), (0, 2), (2, 2)], [(-4, -4), (-2, -4), (-3, -3), (-4, -2), (-2, -2)],
     answer([(-1, 0), (0, -1)], (-2, -2))),
    # Of one size, and with as many corners but the third.
    ([(0, 0), (4, 0), (0, 1)], [(0, 0), (2, 0), (0, 2)], [0]),
    (DIAMOND, [(0, 0), (1, 0), (0, 2), (1, 2)], [0]),
    ([(0, 0), (4, 0), (0, 2)], [(0, 0), (2, 0), (0, 2), (2, 2)], [0]),

    (TETRAHEDRON, TETRAHEDRON, answer([(-1, -1, -1), (0, 0, 1), (0, 1, 0)], (1, 0, 0))),
    (CUBE, CUBE, answer(MINUS, (1, 1, 1))),
    (CUBE, moved(CUBE, (-4, 2, -1))[::-1], answer(MINUS, (-3, 3, 0))),
    (ROUND_ORIGIN, moved(ROUND_ORIGIN, (1, 1, 1)), answer(MINUS, (1, 1, 1))),
    (CUBE, ROUND_ORIGIN, [0]),
    (ROUND_ORIGIN, CUBE, [0]),
    (OCTAHEDRON, OCTAHEDRON, answer(MINUS, (0, 0, 0))),
    (OCTAHEDRON, moved(OCTAHEDRON + [(0, 0, 0)] * 2, (2, -1, 3)), answer(MINUS, (2, -1, 3))),
    (moved(OCTAHEDRON, (2, -1, 3)), OCTAHEDRON + [(0, 1, 0), (0, 0, 0)], answer(MINUS, (2, -1, 3))),
    (OCTAHEDRON, [(x + y, y, z) for x, y, z in OCTAHEDRON],
     answer([(-1, -1, 0), (-1, 0, 0), (0, 0, -1)], (0, 0, 0))),
    (FIRST_FIFTH, SECOND_FIFTH, [0]),
    (SECOND_FIFTH, FIRST_FIFTH, [0]),
    (FIRST_FIFTH, TETRAHEDRON, [0]),
    (CUBE, OCTAHEDRON, [0]),
]

TURNS = {
    1: [[(1,)], [(-1,)]],
    2: [[(0, -1), (1, 0)], [(1, 0), (0, -1)], [(1, 1), (0, 1)], [(0, 1), (1, -1)], [(2, 1), (1, 1)]],
    3: [
        [(0, 1, 0), (0, 0, 1), (1, 0, 0)], [(1, 0, 0), (0, -1, 0), (0, 0, 1)], [(1, 0, 1), (0, 1, 0), (0, 0, 1)],
        [(0, -1, 0), (1, 0, 0), (1, 1, 1)], [(-1, 0, 0), (1, 1, 0), (0, -1, 1)],
    ],
}


class Alike(unittest.TestCase):
    def test_pairs(self):
        for points, others, told in PAIRS:
            with self.subTest(points, others=others):
                self.assertEqual(er_alike(flat(len(points[0]), points), flat(len(others[0]), others)), told)

    def test_every_known_body_is_like_itself(self):
        for name, d, points, counts, poly in COUNTED:
            with self.subTest(name):
                self.assertEqual(er_alike(flat(d, points), flat(d, points[::-1]))[0], 1)

    def test_the_d_differ(self):
        for name, d, points, counts, poly in COUNTED[::3]:
            for name_2, d_2, points_2, counts_2, poly_2 in COUNTED[::3]:
                if d != d_2:
                    self.assertEqual(er_alike(flat(d, points), flat(d_2, points_2)), [0], (name, name_2))

    def test_no_bodies_as_the_first_as_the_second_and_as_both(self):
        bodies = [flat(d, points) for name, d, points, counts, poly in COUNTED if len(points) == d + 1]
        for name, body in NOT_BODIES:
            for other in bodies:
                with self.subTest(name, other=other):
                    self.assertEqual(er_alike(body, other), [-2])
                    self.assertEqual(er_alike(other, body), [-2])
            for name_2, other in NOT_BODIES:
                with self.subTest(name, other=name_2):
                    self.assertEqual(er_alike(body, other), [-2])


class AlikeByWords(unittest.TestCase):
    """Every way to send the corners of the one body to those of the other is tried."""

    def alike(self, d, points, others):
        corners = sorted({points[place] for place in corners_by_words(points)})
        goals = sorted({others[place] for place in corners_by_words(others)})
        if len(corners) != len(goals):
            return [0]
        columns = [[corner[axis] for corner in corners] for axis in range(d)] + [[1] * len(corners)]
        found = []
        for images in permutations(goals):
            rows = [solve(columns, [image[axis] for image in images]) for axis in range(d)]
            if None not in rows and all(x.denominator == 1 for row in rows for x in row):
                square = [tuple(int(x) for x in row[:d]) for row in rows]
                if abs(determinant(square)) == 1:
                    found.append((square, tuple(int(row[d]) for row in rows)))
        if not found:
            return [0]
        return answer(*min(found))

    def check(self, d, points, others):
        told = self.alike(d, points, others)
        self.assertEqual(er_alike(flat(d, points), flat(d, others)), told, (points, others))
        return told[0]

    def turned(self, d, n, low, high, count):
        """Bodies are turned, mirrored, sheared and moved, as far as the numbers stay from -4 to 4."""
        tried = 0
        for start in range(count):
            points = spread(d, n, low, high, start)
            if spans(points, d + 1):
                for rows in TURNS[d]:
                    others = mapped(rows, spread(d, 1, -1, 1, start + 500)[0], points)
                    if all(abs(x) <= 4 for point in others for x in point):
                        self.assertEqual(self.check(d, points, others[1:] + others[:1]), 1)
                        tried += 1
        self.assertGreater(tried, count)

    def test_pairs(self):
        for points, others, told in PAIRS:
            if len(points) < 6 and len(points[0]) == len(others[0]):
                self.check(len(points[0]), points, others)

    def test_tetrahedra_of_one_size(self):
        self.assertEqual(self.check(3, FIRST_FIFTH, SECOND_FIFTH), 0)
        self.assertEqual(self.check(3, SECOND_FIFTH, THIRD_FIFTH), 1)
        self.assertEqual(self.check(3, THIRD_FIFTH, SECOND_FIFTH), 1)
        self.assertEqual(self.check(3, FIRST_FIFTH, moved(FIRST_FIFTH, (2, -1, 0))), 1)

    def test_turned_in_one_dimension(self):
        self.turned(1, 3, -3, 3, 20)

    def test_turned_in_the_plane(self):
        self.turned(2, 4, -2, 1, 20)

    def test_turned_in_space(self):
        self.turned(3, 5, -1, 1, 12)

    def test_strewn_bodies(self):
        met = {}
        for d, n, count in ((1, 2, 20), (2, 3, 60), (2, 4, 60), (3, 4, 40)):
            for start in range(count):
                points, others = spread(d, n, -1, 1, start), spread(d, n, -1, 1, start + 1000)
                if spans(points, d + 1) and spans(others, d + 1):
                    met[(d, self.check(d, points, others))] = True
        self.assertEqual(sorted(met), [(1, 0), (1, 1), (2, 0), (2, 1), (3, 0), (3, 1)])


if __name__ == "__main__":
    unittest.main()
