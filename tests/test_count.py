"""Promise 3: er_count."""

import unittest

from known_bodies import NOT_BODIES, flat
from known_counts import COUNTED
from slow_search import Mixes, spans, spread
from wholepoints.bodies import er_count

ALL_T = range(-3, 4)


class Count(unittest.TestCase):
    def test_known_bodies(self):
        for name, d, points, counts, poly in COUNTED:
            for t, count in zip(ALL_T, counts):
                with self.subTest(name, t=t):
                    self.assertEqual(er_count(t, flat(d, points)), [0, count])

    def test_the_order_of_the_points_does_not_matter(self):
        for name, d, points, counts, poly in COUNTED:
            for t, count in zip(ALL_T, counts):
                with self.subTest(name, t=t):
                    self.assertEqual(er_count(t, flat(d, points[::-1])), [0, count])

    def test_no_bodies_whatever_t_is(self):
        for name, body in NOT_BODIES:
            for t in ALL_T:
                with self.subTest(name, t=t):
                    self.assertEqual(er_count(t, body), [-2])


class CountByWords(unittest.TestCase):
    def check(self, d, points):
        body = flat(d, points)
        if not spans(points, d + 1):
            self.assertEqual([er_count(t, body) for t in ALL_T], [[-2]] * 7, body)
            return
        mixes = Mixes(points)
        self.assertEqual([er_count(t, body) for t in ALL_T], [[0, mixes.count(t)] for t in ALL_T], body)

    def test_known_bodies(self):
        for name, d, points, counts, poly in COUNTED:
            if max(counts) < 300:
                self.check(d, points)

    def test_one_dimension(self):
        for start in range(40):
            self.check(1, spread(1, 1 + start % 8, -4, 4, start))

    def test_plane(self):
        for start in range(60):
            self.check(2, spread(2, 3 + start % 3, -2, 2, start))

    def test_space(self):
        for start in range(40):
            self.check(3, spread(3, 4 + start % 3, 0, 1 + start % 2, start))


if __name__ == "__main__":
    unittest.main()
