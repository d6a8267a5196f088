"""Bodies whose corners and sides were worked out by hand from the document's words.

Each: a name, d, the points, the places of the corners, the sides as (a_1, ..., a_d, e) in order.
"""

from itertools import product


def flat(d, points):
    """The body as one flat list: d, n, the points' numbers."""
    return [d, len(points)] + [x for point in points for x in point]


def mask(places):
    return sum(2 ** place for place in places)


def rows(d, sides):
    """The answer of er_sides: how many, then rows of five with zeros ahead of e."""
    answer = [len(sides)]
    for side in sides:
        answer += list(side[:d]) + [0] * (4 - d) + [side[d]]
    return answer


SIGNS_3 = [
    (-1, -1, -1, 1), (-1, -1, 1, 1), (-1, 1, -1, 1), (-1, 1, 1, 1),
    (1, -1, -1, 1), (1, -1, 1, 1), (1, 1, -1, 1), (1, 1, 1, 1),
]
SIGNS_4 = [signs + (1,) for signs in product((-1, 1), repeat=4)]

KNOWN = [
    ("segment", 1, [(1,), (3,)], [0, 1], [(-1, -1), (1, 3)]),
    ("segment told from its far end", 1, [(3,), (1,)], [0, 1], [(-1, -1), (1, 3)]),
    ("segment below 0", 1, [(-4,), (-2,)], [0, 1], [(-1, 4), (1, -2)]),
    ("longest segment, a point inside", 1, [(-4,), (0,), (4,)], [0, 2], [(-1, 4), (1, 4)]),
    ("segment, one corner told three times", 1, [(2,), (2,), (-1,), (2,)], [0, 1, 2, 3], [(-1, 1), (1, 2)]),
    ("segment, a point inside told twice", 1, [(0,), (1,), (1,), (3,)], [0, 3], [(-1, 0), (1, 3)]),

    ("triangle", 2, [(0, 0), (1, 0), (0, 1)], [0, 1, 2], [(-1, 0, 0), (0, -1, 0), (1, 1, 1)]),
    ("triangle, a divisor to take out", 2, [(0, 0), (4, 0), (0, 2)], [0, 1, 2],
     [(-1, 0, 0), (0, -1, 0), (1, 2, 4)]),
    ("thin large triangle", 2, [(-4, -4), (4, -3), (-3, 4)], [0, 1, 2],
     [(-8, 1, 28), (1, -8, 28), (1, 1, 1)]),
    ("triangle, an e below 0", 2, [(4, 4), (2, 4), (4, 1)], [0, 1, 2],
     [(-3, -2, -14), (0, 1, 4), (1, 0, 4)]),
    ("square", 2, [(0, 0), (2, 0), (0, 2), (2, 2)], [0, 1, 2, 3],
     [(-1, 0, 0), (0, -1, 0), (0, 1, 2), (1, 0, 2)]),
    ("square, points first on a side and inside", 2, [(1, 0), (1, 1), (0, 0), (2, 0), (0, 2), (2, 2)],
     [2, 3, 4, 5], [(-1, 0, 0), (0, -1, 0), (0, 1, 2), (1, 0, 2)]),
    ("largest square", 2, [(-4, -4), (4, 4), (-4, 4), (4, -4)], [0, 1, 2, 3],
     [(-1, 0, 4), (0, -1, 4), (0, 1, 4), (1, 0, 4)]),
    ("square on its corner, its middle told twice", 2, [(0, 0), (1, 0), (-1, 0), (0, 0), (0, 1), (0, -1)],
     [1, 2, 4, 5], [(-1, -1, 1), (-1, 1, 1), (1, -1, 1), (1, 1, 1)]),
    ("triangle, a corner and a point of a side told twice", 2,
     [(0, 0), (2, 0), (1, 1), (0, 2), (1, 1), (2, 0)], [0, 1, 3, 5],
     [(-1, 0, 0), (0, -1, 0), (1, 1, 2)]),
    ("twelve points, one corner of three told twice", 2,
     [(0, 0), (0, 0), (1, 0), (2, 0), (3, 0), (0, 1), (1, 1), (2, 1), (0, 2), (1, 2), (0, 3), (1, 1)],
     [0, 1, 4, 10], [(-1, 0, 0), (0, -1, 0), (1, 1, 3)]),

    ("tetrahedron", 3, [(0, 0, 0), (1, 0, 0), (0, 1, 0), (0, 0, 1)], [0, 1, 2, 3],
     [(-1, 0, 0, 0), (0, -1, 0, 0), (0, 0, -1, 0), (1, 1, 1, 1)]),
    ("leaning tetrahedron", 3, [(0, 0, 0), (1, 0, 0), (0, 1, 0), (1, 1, 3)], [0, 1, 2, 3],
     [(-3, 0, 1, 0), (0, -3, 1, 0), (0, 0, -1, 0), (3, 3, -1, 3)]),
    ("cube", 3, list(product((0, 1), repeat=3)), list(range(8)),
     [(-1, 0, 0, 0), (0, -1, 0, 0), (0, 0, -1, 0), (0, 0, 1, 1), (0, 1, 0, 1), (1, 0, 0, 1)]),
    ("largest cube, four points more", 3,
     [(0, 0, 0), (4, 0, 0), (4, 4, 0)] + list(product((-4, 4), repeat=3)) + [(4, 4, -4)],
     list(range(3, 12)),
     [(-1, 0, 0, 4), (0, -1, 0, 4), (0, 0, -1, 4), (0, 0, 1, 4), (0, 1, 0, 4), (1, 0, 0, 4)]),
    ("octahedron", 3, [(1, 0, 0), (-1, 0, 0), (0, 1, 0), (0, -1, 0), (0, 0, 1), (0, 0, -1)],
     list(range(6)), SIGNS_3),
    ("pyramid, the middle of its base told", 3,
     [(0, 0, 0), (1, 1, 0), (1, -1, 0), (-1, 1, 0), (-1, -1, 0), (0, 0, 1)], [1, 2, 3, 4, 5],
     [(-1, 0, 1, 1), (0, -1, 1, 1), (0, 0, -1, 0), (0, 1, 1, 1), (1, 0, 1, 1)]),

    ("simplex", 4, [(0, 0, 0, 0), (1, 0, 0, 0), (0, 1, 0, 0), (0, 0, 1, 0), (0, 0, 0, 1)], [0, 1, 2, 3, 4],
     [(-1, 0, 0, 0, 0), (0, -1, 0, 0, 0), (0, 0, -1, 0, 0), (0, 0, 0, -1, 0), (1, 1, 1, 1, 1)]),
    ("largest simplex, a corner, a middle and a point of a side more", 4,
     [(-4, -4, -4, -4), (-3, -3, -3, -3), (4, -4, -4, -4), (-4, 4, -4, -4), (-4, -4, 4, -4),
      (-4, -4, -4, 4), (4, -4, -4, -4), (-2, -2, -2, -2)], [0, 2, 3, 4, 5, 6],
     [(-1, 0, 0, 0, 4), (0, -1, 0, 0, 4), (0, 0, -1, 0, 4), (0, 0, 0, -1, 4), (1, 1, 1, 1, -8)]),
    ("cross", 4,
     [(1, 0, 0, 0), (-1, 0, 0, 0), (0, 1, 0, 0), (0, -1, 0, 0),
      (0, 0, 1, 0), (0, 0, -1, 0), (0, 0, 0, 1), (0, 0, 0, -1)], list(range(8)), SIGNS_4),
    ("prism over a tetrahedron", 4,
     [(0, 0, 0, 0), (1, 0, 0, 0), (0, 1, 0, 0), (0, 0, 1, 0),
      (0, 0, 0, 1), (1, 0, 0, 1), (0, 1, 0, 1), (0, 0, 1, 1)], list(range(8)),
     [(-1, 0, 0, 0, 0), (0, -1, 0, 0, 0), (0, 0, -1, 0, 0),
      (0, 0, 0, -1, 0), (0, 0, 0, 1, 1), (1, 1, 1, 0, 1)]),
]

# Flat lists that tell no body: what is amiss, the list.
NOT_BODIES = [
    ("d is 0", [0, 3]),
    ("d is 5", [5, 6]),
    ("d is 1000000", [1000000, 3]),
    ("n is 0", [2, 0]),
    ("n is 13", [2, 13]),
    ("n is 1000000", [4, 1000000]),
    ("d and n are 0", [0, 0]),
    ("d and n are 1000000", [1000000, 1000000]),
    ("a number is -5", [1, 2, -5, 0]),
    ("a number is 5", [1, 2, 0, 5]),
    ("a number is -128", flat(2, [(0, 0), (1, 0), (0, -128)])),
    ("a number is 127", flat(2, [(0, 0), (1, 0), (127, 1)])),
    ("a number is 5, in four dimensions",
     flat(4, [(0, 0, 0, 0), (1, 0, 0, 0), (0, 1, 0, 0), (0, 0, 1, 0), (0, 0, 0, 5)])),
    ("one point in one dimension", [1, 1, 0]),
    ("one point in four dimensions", [4, 1, 1, 2, 3, 4]),
    ("two points in the plane", flat(2, [(0, 0), (1, 1)])),
    ("three points in space", flat(3, [(0, 0, 0), (1, 0, 0), (0, 1, 0)])),
    ("four points in four dimensions", flat(4, [(0, 0, 0, 0), (1, 0, 0, 0), (0, 1, 0, 0), (0, 0, 1, 0)])),
    ("equal points in one dimension", [1, 12] + [3] * 12),
    ("equal points in the plane", flat(2, [(1, 2)] * 5)),
    ("equal points in space", flat(3, [(0, 0, 0)] * 8)),
    ("equal points in four dimensions", flat(4, [(-4, 4, -4, 4)] * 8)),
    ("points on a leaning line in the plane", flat(2, [(0, 1), (1, 3), (-1, -1), (-2, -3)])),
    ("points on an upright line in the plane", flat(2, [(2, 0), (2, 4), (2, -4), (2, 0)])),
    ("three points, two of them equal, in the plane", flat(2, [(0, 0), (1, 0), (0, 0)])),
    ("points on a line in space", flat(3, [(0, 0, 0), (1, 1, 1), (2, 2, 2), (3, 3, 3), (-4, -4, -4)])),
    ("points in a leaning plane in space", flat(3, [(1, 0, 0), (0, 1, 0), (0, 0, 1), (2, -1, 0), (-1, -1, 3)])),
    ("points in a flat plane in space", flat(3, [(0, 0, 4), (1, 0, 4), (0, 1, 4), (1, 1, 4)])),
    ("points in a plane in four dimensions",
     flat(4, [(0, 0, 0, 0), (1, 0, 1, 0), (0, 1, 0, 1), (1, 1, 1, 1), (2, 1, 2, 1)])),
    ("points that keep x_4 = x_1 + x_2 + x_3 + 1",
     flat(4, [(0, 0, 0, 1), (1, 0, 0, 2), (0, 1, 0, 2), (0, 0, 1, 2), (1, 1, 1, 4), (-1, 0, 0, 0)])),
    ("nine points on a line in the plane", flat(2, [(x, -x) for x in range(-4, 5)])),
    ("ten points in a plane in space", flat(3, [(x, y, x + y) for x in range(2) for y in range(-2, 3)])),
    ("eleven points in space, a number is 5", flat(3, [(x, y, 1) for x in range(2) for y in range(5)] + [(0, 0, 5)])),
    ("twelve points in space, the first number is -5",
     flat(3, [(-5, 0, 0)] + list(product((0, 1), repeat=3)) + [(0, 0, 2)] * 3)),
    ("nine points that keep x_1 + x_2 = x_3 + x_4",
     flat(4, [(x, y, x, y) for x in range(3) for y in range(3)][:-1] + [(1, 0, 0, 1)])),
    ("twelve points that keep x_4 = 0", flat(4, [(x, y, z, 0) for x in (0, 1) for y in (0, 1) for z in (-4, 0, 4)])),
    ("twelve points in four dimensions, the last number is -5",
     flat(4, [(x, y, z, x) for x in (0, 1) for y in (0, 1) for z in (-4, 0, 4)][:-1] + [(0, 0, 0, -5)])),
]
