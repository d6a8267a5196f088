"""Slow searches that follow the document's words and none of the program's steps."""

from fractions import Fraction
from itertools import combinations, product
from math import gcd, lcm


def solve(columns, goal):
    """The one way to make goal of the columns, or None if there's none or more than one."""
    table = [[Fraction(column[k]) for column in columns] + [Fraction(goal[k])] for k in range(len(goal))]
    for k in range(len(columns)):
        head = next((row for row in table[k:] if row[k] != 0), None)
        if head is None:
            return None
        table.remove(head)
        table.insert(k, [x / head[k] for x in head])
        table = [row if j == k else [x - row[k] * y for x, y in zip(row, table[k])] for j, row in enumerate(table)]
    if any(row[-1] != 0 for row in table[len(columns):]):
        return None
    return [row[-1] for row in table[:len(columns)]]


def spans(points, size):
    """Whether some of the points, with a 1 behind each, are size many that don't depend on one another."""
    columns = [list(point) + [1] for point in points]
    return any(solve(chosen, [0] * len(columns[0])) is not None for chosen in combinations(columns, size))


def is_mix(point, others):
    """A point is a mix of others if it is one of some of them that don't depend on one another."""
    goal = list(point) + [1]
    for size in range(1, len(goal) + 1):
        for chosen in combinations(others, size):
            weights = solve([list(other) + [1] for other in chosen], goal)
            if weights is not None and min(weights) >= 0:
                return True
    return False


def corners_by_words(points):
    return [
        place for place, point in enumerate(points)
        if not is_mix(point, sorted({other for other in points if other != point}))
    ]


def sides_by_words(d, points, farthest):
    """All a's from -farthest to farthest are tried: that is to be large enough."""
    sides = []
    for a in product(range(-farthest, farthest + 1), repeat=d):
        if gcd(*a) == 1:
            values = [sum(x * y for x, y in zip(a, point)) for point in points]
            e = max(values)
            if spans([point for point, value in zip(points, values) if value == e], d):
                sides.append(a + (e,))
    return sorted(sides)


def weights_of(chosen):
    """For d + 1 points: rows that tell, times a number above 0, the weights by which they make (x, t); or None."""
    columns = [list(point) + [1] for point in chosen]
    size = len(columns)
    told = [solve(columns, [int(j == k) for j in range(size)]) for k in range(size)]
    if None in told:
        return None
    common = lcm(*[weight.denominator for weights in told for weight in weights])
    return [[int(told[k][place] * common) for k in range(size)] for place in range(size)]


class Mixes:
    """All mixes of some points: one is a mix of d + 1 of them that don't depend on one another."""

    def __init__(self, points):
        self.d = len(points[0])
        self.points = points
        several = sorted(set(points))
        self.simplices = [rows for rows in map(weights_of, combinations(several, self.d + 1)) if rows is not None]

    def has(self, point, t):
        """Whether the point is in t times the body, t not below 0."""
        goal = tuple(point) + (t,)
        return any(all(sum(w * x for w, x in zip(row, goal)) >= 0 for row in rows) for rows in self.simplices)

    def has_inside(self, point, t):
        """Whether one can go a thousandth along each axis, both ways: no body asked here needs a smaller step."""
        for axis in range(self.d):
            for step in (-1, 1):
                moved = [1000 * x + (step if k == axis else 0) for k, x in enumerate(point)]
                if not self.has(moved, 1000 * t):
                    return False
        return True

    def grid(self, t):
        ends = [[t * point[axis] for point in self.points] for axis in range(self.d)]
        return product(*[range(min(numbers), max(numbers) + 1) for numbers in ends])

    def whole(self, t):
        """The whole points in t times the body, in order."""
        return [point for point in self.grid(t) if self.has(point, t)]

    def whole_inside(self, t):
        """The whole points inside t times the body, in order."""
        return [point for point in self.grid(t) if self.has_inside(point, t)]

    def count(self, t):
        return len(self.whole(t)) if t >= 0 else len(self.whole_inside(-t))


def spread(d, n, low, high, start):
    """n points of d numbers from low to high, the same each time, strewn by a plain rule."""
    state = start * 7919 + 12345
    points = []
    for place in range(n):
        point = []
        for axis in range(d):
            state = (state * 1103515245 + 12345) % 2 ** 31
            point.append(low + (state >> 16) % (high - low + 1))
        points.append(tuple(point))
    return points
