"""The calls on bodies: each takes a body as one flat list of whole numbers and answers one flat list."""

MOST_AXES = 4
MOST_POINTS = 12
FARTHEST = 4
TOO_MANY = -1
NO_BODY = -2


def er_corners(body):
    points = points_of(body)
    if not points:
        return [NO_BODY]
    sides = sides_of(points)
    mask = 0
    weight = 1
    for point in points:
        if is_corner(point, sides):
            mask += weight
        weight *= 2
    return [mask]


def er_sides(most, body):
    points = points_of(body)
    if not points:
        return [NO_BODY]
    sides = sides_of(points)
    if len(sides) > most:
        return [TOO_MANY]
    answer = [len(sides)]
    for normal, e in sides:
        answer.extend(filled(normal, MOST_AXES) + [e])
    return answer


def er_count(t, body):
    points = points_of(body)
    if not points:
        return [NO_BODY]
    return [0, len(whole_points(points, sides_of(points), t))]


def er_poly(body):
    points = points_of(body)
    if not points:
        return [NO_BODY]
    total = [0] * (MOST_AXES + 1)
    for j, h in enumerate(star_of(points)):
        total = [x + y for x, y in zip(total, filled(falling(h, len(points[0]), j), MOST_AXES + 1))]
    return [0] + total


def er_star(body):
    points = points_of(body)
    if not points:
        return [NO_BODY]
    star = star_of(points)
    return [sum(star)] + filled(star, MOST_AXES + 1)


def er_mirror(body):
    points = points_of(body)
    if not points:
        return [NO_BODY]
    sides = sides_of(points)
    inside = whole_points(points, sides, -1)
    if len(inside) == 1 and all([value_at(normal, inside[0]) == e - 1 for normal, e in sides]):
        return [1] + filled(inside[0], MOST_AXES)
    return [0]


def er_sums(body):
    points = points_of(body)
    if not points:
        return [NO_BODY]
    sides = sides_of(points)
    # The body's own points lead, as one of its corners is a part of most sums.
    parts = points + whole_points(points, sides, 1)
    # A body can be cut into simplices that have no whole points but their corners. From each whole point of t times
    # one of these, t of d or more, a corner can be taken off: no t of d or more is the least that fails.
    for t in range(2, len(points[0])):
        fewer = dict([(point, True) for point in whole_points(points, sides, t - 1)])
        for point in whole_points(points, sides, t):
            if not is_sum(point, parts, fewer):
                return [t] + filled(point, MOST_AXES) + [t]
    return [0]


def er_alike(body, other):
    points = points_of(body)
    goals = points_of(other)
    if not points or not goals:
        return [NO_BODY]
    if len(points[0]) != len(goals[0]):
        return [0]
    maps = maps_between(corners_of(points), corners_of(goals))
    if not maps:
        return [0]
    first = min(maps)
    numbers = []
    for row in first[0]:
        numbers.extend(filled(row, MOST_AXES))
    return [1] + filled(numbers, MOST_AXES * MOST_AXES) + filled(first[1], MOST_AXES)


# An empty list stands for a body that isn't so: a body that is so has two points at the least.
def points_of(body):
    d = body[0]
    n = body[1]
    if d < 1 or d > MOST_AXES or n < 1 or n > MOST_POINTS:
        return []
    numbers = body[2:]
    if min(numbers) < -FARTHEST or max(numbers) > FARTHEST:
        return []
    points = [tuple(numbers[d * k:d * k + d]) for k in range(n)]
    if room_of(points) <= d:
        return []
    return points


# With a 1 behind each point, a relation a_1 x_1 + ... + a_d x_d = e that all of them
# keep is a relation between the columns, and lowers the rank: it's d + 1 if there's none.
def room_of(points):
    return rank([point + (1,) for point in points])


# A side is (the a's, e). Sorting these sorts the rows too, as all have zeros in the same places.
def sides_of(points):
    found = {}
    for chosen in choices(points, len(points[0])):
        normal = normal_of(chosen)
        # Points that depend on one another, as three on a line do in space, determine no side.
        if any(normal):
            least = without_common_divisor(normal)
            # Which way is outward isn't known ahead: at the most one of the two passes.
            for sign in (1, -1):
                outward = tuple([sign * a for a in least])
                e = value_at(outward, chosen[0])
                if all([value_at(outward, point) <= e for point in points]):
                    found[(outward, e)] = True
    return sorted(found)


def filled(numbers, size):
    return list(numbers) + [0] * (size - len(numbers))


# A body that has room has a corner just where the sides that meet there leave no way to go along all of them.
def is_corner(point, sides):
    meeting = [side[0] for side in sides if value_at(side[0], point) == side[1]]
    return rank(meeting) == len(point)


# In order: those in t times the body or, where t is below 0, those inside -t times it.
def whole_points(points, sides, t):
    bounds = bounds_of(sides, t)
    found = []
    for start in starts_of(points, t):
        found.extend([start + (x,) for x in last_numbers(start, bounds)])
    return found


# For whole numbers, below e is e - 1 at the most: what is inside has bounds of the same form.
def bounds_of(sides, t):
    if t < 0:
        return [(normal, -t * e - 1) for normal, e in sides]
    return [(normal, t * e) for normal, e in sides]


# All that may stand ahead of a point's last number.
def starts_of(points, t):
    starts = [()]
    for axis in range(len(points[0]) - 1):
        ends = [abs(t) * point[axis] for point in points]
        longer = []
        for start in starts:
            longer.extend([start + (x,) for x in range(min(ends), max(ends) + 1)])
        starts = longer
    return starts


# A body ends both ways along its last axis, so there's a bound for either way.
def last_numbers(start, bounds):
    lows = []
    highs = []
    for normal, e in bounds:
        left = e - value_at(normal[:-1], start)
        last = normal[-1]
        if last > 0:
            highs.append(left // last)
        elif last < 0:
            lows.append(-(left // -last))
        elif left < 0:
            return []
    return list(range(max(lows), min(highs) + 1))


# h_0 to h_d. C(t + d - j, d) is 0 where j is above t and 1 where it's t: each count tells one h more.
def star_of(points):
    d = len(points[0])
    sides = sides_of(points)
    star = []
    for t in range(d + 1):
        told = sum([h * choose(t + d - j, d) for j, h in enumerate(star)])
        star.append(len(whole_points(points, sides, t)) - told)
    return star


def choose(n, k):
    found = 1
    for i in range(k):
        found = found * (n - i) // (i + 1)
    return found


# What stands before 1, t, ... t^d in d! h C(t + d - j, d): that's h (t + d - j) (t + d - j - 1) ... (t + 1 - j).
def falling(h, d, j):
    found = [h]
    for i in range(d):
        ahead = d - j - i
        found = [ahead * x + y for x, y in zip(found + [0], [0] + found)]
    return found


# All points of fewer are sums by themselves, of one part less.
def is_sum(point, parts, fewer):
    for part in parts:
        if difference(point, part) in fewer:
            return True
    return False


def corners_of(points):
    sides = sides_of(points)
    return sorted(set([point for point in points if is_corner(point, sides)]))


# All (M, v) that take the corners to the goals. What M and v make of d + 1 corners with room between them tells both.
def maps_between(corners, goals):
    if len(corners) != len(goals):
        return []
    base = base_of(corners)
    ways = [difference(corner, base[0]) for corner in base[1:]]
    undone = adjugate(ways)
    divisor = determinant(ways)
    found = []
    for images in arrangements(goals, len(base)):
        square = square_of(undone, divisor, images)
        if square and abs(determinant(square)) == 1:
            v = difference(images[0], times(square, base[0]))
            if sorted([moved(times(square, corner), v) for corner in corners]) == goals:
                found.append((square, v))
    return found


def base_of(corners):
    base = []
    for corner in corners:
        if room_of(base + [corner]) > len(base):
            base.append(corner)
    return base


def arrangements(points, size):
    begun = [[]]
    for place in range(size):
        longer = []
        for chosen in begun:
            longer.extend([chosen + [point] for point in points if point not in chosen])
        begun = longer
    return begun


# M, by Cramer's rule: undone and divisor come from the ways between the corners that the images are of.
# No rows at all where a number of M isn't whole.
def square_of(undone, divisor, images):
    ways = [difference(image, images[0]) for image in images[1:]]
    square = []
    for axis in range(len(ways)):
        row = times(undone, [way[axis] for way in ways])
        if any([x % divisor for x in row]):
            return []
        square.append(tuple([x // divisor for x in row]))
    return square


# The rows' inverse times their determinant.
def adjugate(rows):
    found = []
    for column in range(len(rows)):
        found.append([cofactor(rows, place, column) for place in range(len(rows))])
    return found


def cofactor(rows, place, column):
    sign = -1 if (place + column) % 2 == 1 else 1
    return sign * determinant([without_column(row, column) for row in rows[:place] + rows[place + 1:]])


def choices(points, size):
    begun = [[]]
    for point in points:
        begun = begun + [chosen + [point] for chosen in begun if len(chosen) < size]
    return [chosen for chosen in begun if len(chosen) == size]


# d points of d numbers: the answer is at right angles to all ways from the first
# to the others, and all zeros just if these ways depend on one another.
def normal_of(chosen):
    ways = [difference(point, chosen[0]) for point in chosen[1:]]
    normal = []
    sign = 1
    for column in range(len(chosen[0])):
        normal.append(sign * determinant([without_column(way, column) for way in ways]))
        sign = -sign
    return tuple(normal)


def determinant(rows):
    if not rows:
        return 1
    total = 0
    sign = 1
    for column in range(len(rows)):
        rest = [without_column(row, column) for row in rows[1:]]
        total += sign * rows[0][column] * determinant(rest)
        sign = -sign
    return total


def rank(rows):
    rest = rows
    found = 0
    while rest:
        head = rest[0]
        rest = rest[1:]
        if any(head):
            column = first_column(head)
            rest = [cleared(row, head, column) for row in rest]
            found += 1
    return found


def first_column(row):
    column = 0
    while row[column] == 0:
        column += 1
    return column


# Both rows are multiplied, not divided, so that the numbers stay whole.
def cleared(row, head, column):
    return [head[column] * x - row[column] * y for x, y in zip(row, head)]


def without_column(row, column):
    return row[:column] + row[column + 1:]


def difference(point, other):
    return tuple([x - y for x, y in zip(point, other)])


def moved(point, way):
    return tuple([x + y for x, y in zip(point, way)])


def times(rows, point):
    return tuple([value_at(row, point) for row in rows])


def value_at(normal, point):
    return sum([a * x for a, x in zip(normal, point)])


def without_common_divisor(normal):
    divisor = 0
    for a in normal:
        divisor = common_divisor(divisor, abs(a))
    return tuple([a // divisor for a in normal])


def common_divisor(a, b):
    while b != 0:
        rest = a % b
        a = b
        b = rest
    return a
