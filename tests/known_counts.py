"""Bodies whose whole points were counted by hand.

Each: a name, d, the points, how many whole points for t of -3, -2, -1, 0, 1, 2, 3 (below 0 those inside -t times the
body), and d! times what stands before 1, t, ... t^4.

In the plane the area A and the whole points B of the rim tell them: A t^2 + B t / 2 + 1, inside A t^2 - B t / 2 + 1.
A tetrahedron of r sixths without any whole point but its corners: (r t^3 + 6 t^2 + (12 - r) t + 6) / 6.
"""

from itertools import product

CUBE = list(product((0, 1), repeat=3))
OCTAHEDRON = [(1, 0, 0), (-1, 0, 0), (0, 1, 0), (0, -1, 0), (0, 0, 1), (0, 0, -1)]


def moved(points, way):
    return [tuple(x + y for x, y in zip(point, way)) for point in points]


COUNTED = [
    # t + 1, inside t - 1
    ("shortest segment", 1, [(0,), (1,)], [2, 1, 0, 1, 2, 3, 4], [1, 1, 0, 0, 0]),
    ("shortest segment at the far end", 1, [(-3,), (-4,)], [2, 1, 0, 1, 2, 3, 4], [1, 1, 0, 0, 0]),
    # 2 t + 1, inside 2 t - 1
    ("segment", 1, [(1,), (3,)], [5, 3, 1, 1, 3, 5, 7], [1, 2, 0, 0, 0]),
    ("segment below 0, points told twice", 1, [(-2,), (-3,), (-4,), (-3,), (-2,)],
     [5, 3, 1, 1, 3, 5, 7], [1, 2, 0, 0, 0]),
    # 8 t + 1, inside 8 t - 1
    ("longest segment", 1, [(4,), (-4,)], [23, 15, 7, 1, 9, 17, 25], [1, 8, 0, 0, 0]),
    ("longest segment, points inside", 1, [(0,), (-4,), (1,), (0,), (4,), (-3,), (3,), (2,)],
     [23, 15, 7, 1, 9, 17, 25], [1, 8, 0, 0, 0]),

    # A is 1/2, B is 3
    ("triangle", 2, [(0, 0), (1, 0), (0, 1)], [1, 0, 0, 1, 3, 6, 10], [2, 3, 1, 0, 0]),
    ("triangle sheared and moved", 2, [(-4, 1), (-3, 3), (-2, 4)], [1, 0, 0, 1, 3, 6, 10], [2, 3, 1, 0, 0]),
    # A is 4, B is 8
    ("triangle of 4 and 2", 2, [(0, 0), (4, 0), (0, 2)], [25, 9, 1, 1, 9, 25, 49], [2, 8, 8, 0, 0]),
    # A is 63/2, B is 9
    ("thin large triangle", 2, [(-4, -4), (4, -3), (-3, 4)],
     [271, 118, 28, 1, 37, 136, 298], [2, 9, 63, 0, 0]),
    # A is 3, B is 6
    ("triangle away from the origin", 2, [(4, 4), (2, 4), (4, 1)], [19, 7, 1, 1, 7, 19, 37], [2, 6, 6, 0, 0]),
    # A is 2, B is 6
    ("triangle, a corner and a point of a side told twice", 2,
     [(0, 0), (2, 0), (1, 1), (0, 2), (1, 1), (2, 0)], [10, 3, 0, 1, 6, 15, 28], [2, 6, 4, 0, 0]),
    # (t + 1)^2, inside (t - 1)^2
    ("smallest square", 2, [(0, 0), (1, 0), (0, 1), (1, 1)], [4, 1, 0, 1, 4, 9, 16], [2, 4, 2, 0, 0]),
    # (2 t + 1)^2, inside (2 t - 1)^2
    ("square", 2, [(0, 0), (2, 0), (0, 2), (2, 2)], [25, 9, 1, 1, 9, 25, 49], [2, 8, 8, 0, 0]),
    ("square, points on its rim and inside", 2,
     [(1, 0), (1, 1), (0, 0), (2, 0), (1, 1), (0, 2), (2, 2), (2, 1)],
     [25, 9, 1, 1, 9, 25, 49], [2, 8, 8, 0, 0]),
    # (8 t + 1)^2, inside (8 t - 1)^2
    ("largest square", 2, [(-4, -4), (4, 4), (-4, 4), (4, -4)],
     [529, 225, 49, 1, 81, 289, 625], [2, 32, 128, 0, 0]),
    # A is 2, B is 4
    ("square on its corner, its middle told twice", 2, [(0, 0), (1, 0), (-1, 0), (0, 0), (0, 1), (0, -1)],
     [13, 5, 1, 1, 5, 13, 25], [2, 4, 4, 0, 0]),
    # A is 10, B is 8
    ("five corners", 2, [(0, 0), (3, 2), (-1, 2), (2, 0), (1, 4)],
     [79, 33, 7, 1, 15, 49, 103], [2, 8, 20, 0, 0]),

    # C(t + 3, 3), inside C(t - 1, 3)
    ("smallest tetrahedron", 3, [(0, 0, 0), (1, 0, 0), (0, 1, 0), (0, 0, 1)],
     [0, 0, 0, 1, 4, 10, 20], [6, 11, 6, 1, 0]),
    ("smallest tetrahedron, each corner told twice", 3, [(-4, -4, -4), (-3, -4, -4), (-4, -3, -4), (-4, -4, -3)] * 2,
     [0, 0, 0, 1, 4, 10, 20], [6, 11, 6, 1, 0]),
    # Its layers over z of 0 to 3 hold no whole point but its corners; r is 3
    ("leaning tetrahedron", 3, [(0, 0, 0), (1, 0, 0), (0, 1, 0), (1, 1, 3)],
     [8, 2, 0, 1, 4, 12, 28], [6, 9, 6, 3, 0]),
    # The same, r is 8
    ("leaning tetrahedron, the highest", 3, [(0, 0, -4), (1, 0, -4), (0, 1, -4), (1, 1, 4)],
     [28, 7, 0, 1, 4, 17, 48], [6, 4, 6, 8, 0]),
    # Two edges without whole points between, at x of 0 and x of 1; r is 4 * 5 + 7 * 5
    ("large tetrahedron of corners alone", 3, [(0, -1, 1), (0, 3, -4), (1, -4, -3), (1, 3, 2)],
     [216, 54, 0, 1, 4, 64, 236], [6, -43, 6, 55, 0]),
    # Its corners and, alone inside, the origin; five sixths, sides without other whole points:
    # (5 t^3 + 6 t^2 + 13 t + 6) / 6
    ("tetrahedron round the origin", 3, [(1, 0, 0), (0, 1, 0), (0, 0, 1), (-1, -1, -2)],
     [19, 6, 1, 1, 5, 16, 39], [6, 13, 6, 5, 0]),
    # C(8 t + 3, 3), inside C(8 t - 1, 3)
    ("largest tetrahedron", 3, [(-4, -4, -4), (4, -4, -4), (-4, 4, -4), (-4, -4, 4)],
     [1771, 455, 35, 1, 165, 969, 2925], [6, 88, 384, 512, 0]),
    # (t + 1)^3, inside (t - 1)^3
    ("smallest cube", 3, CUBE, [8, 1, 0, 1, 8, 27, 64], [6, 18, 18, 6, 0]),
    # (2 t + 1)^3, inside (2 t - 1)^3
    ("cube round the origin", 3, list(product((-1, 1), repeat=3)),
     [125, 27, 1, 1, 27, 125, 343], [6, 36, 72, 48, 0]),
    # (8 t + 1)^3, inside (8 t - 1)^3
    ("largest cube", 3, list(product((-4, 4), repeat=3)),
     [12167, 3375, 343, 1, 729, 4913, 15625], [6, 144, 1152, 3072, 0]),
    # (2 t + 1) (2 t^2 + 2 t + 3) / 3, inside (2 t - 1) (2 t^2 - 2 t + 3) / 3
    ("octahedron", 3, OCTAHEDRON, [25, 7, 1, 1, 7, 25, 63], [6, 16, 12, 8, 0]),
    ("octahedron moved, its middle told twice", 3, moved([(0, 0, 0)] + OCTAHEDRON + [(0, 0, 0)], (2, -3, 1)),
     [25, 7, 1, 1, 7, 25, 63], [6, 16, 12, 8, 0]),
    # 1 + 9 + ... + (2 t + 1)^2, inside 1 + 9 + ... + (2 t - 3)^2
    ("pyramid, the middle of its base told", 3,
     [(0, 0, 0), (1, 1, 0), (1, -1, 0), (-1, 1, 0), (-1, -1, 0), (0, 0, 1)],
     [10, 1, 0, 1, 10, 35, 84], [6, 22, 24, 8, 0]),
    # (t + 1) (t + 1) (t + 2) / 2, inside (t - 1) (t - 1) (t - 2) / 2
    ("prism", 3, [(0, 0, 0), (1, 0, 0), (0, 1, 0), (0, 0, 1), (1, 0, 1), (0, 1, 1)],
     [2, 0, 0, 1, 6, 18, 40], [6, 15, 12, 3, 0]),
]
