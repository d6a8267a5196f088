"""The calls on bodies: each takes a body as one flat list of whole numbers and answers one flat list."""

MOST_AXES = 4
MOST_POINTS = 12
FARTHEST = 4
TOO_MANY = -1
NO_BODY = -2


def er_corners(body):
    points = points_of(body)
    if not points:
        return [NO_BODY]
    sides = sides_of(points)
    mask = 0
    weight = 1
    for point in points:
        if is_corner(point, sides):
            mask += weight
        weight *= 2
    return [mask]


def er_sides(most, body):
    points = points_of(body)
    if not points:
        return [NO_BODY]
    sides = sides_of(points)
    if len(sides) > most:
        return [TOO_MANY]
    answer = [len(sides)]
    for side in sides:
        answer.extend(row_of(side))
    return answer


# An empty list stands for a body that isn't so: a body that is so has two points at the least.
def points_of(body):
    d = body[0]
    n = body[1]
    if d < 1 or d > MOST_AXES or n < 1 or n > MOST_POINTS:
        return []
    numbers = body[2:]
    if min(numbers) < -FARTHEST or max(numbers) > FARTHEST:
        return []
    points = [tuple(numbers[d * k:d * k + d]) for k in range(n)]
    if not have_room(points):
        return []
    return points


# With a 1 behind each point, a relation a_1 x_1 + ... + a_d x_d = e that all of them
# keep is a relation between the columns, and lowers the rank.
def have_room(points):
    return rank([point + (1,) for point in points]) == len(points[0]) + 1


# A side is (the a's, e). Sorting these sorts the rows too, as all have zeros in the same places.
def sides_of(points):
    found = {}
    for chosen in choices(points, len(points[0])):
        normal = normal_of(chosen)
        # Points that depend on one another, as three on a line do in space, determine no side.
        if any(normal):
            least = without_common_divisor(normal)
            # Which way is outward isn't known ahead: at the most one of the two passes.
            for outward in (least, opposite(least)):
                e = value_at(outward, chosen[0])
                if all([value_at(outward, point) <= e for point in points]):
                    found[(outward, e)] = True
    return sorted(found)


def row_of(side):
    normal = list(side[0])
    return normal + [0] * (MOST_AXES - len(normal)) + [side[1]]


# A body that has room has a corner just where the sides that meet there leave no way to go along all of them.
def is_corner(point, sides):
    meeting = [side[0] for side in sides if value_at(side[0], point) == side[1]]
    return rank(meeting) == len(point)


def choices(points, size):
    begun = [[]]
    for point in points:
        begun = begun + [chosen + [point] for chosen in begun if len(chosen) < size]
    return [chosen for chosen in begun if len(chosen) == size]


# d points of d numbers: the answer is at right angles to all ways from the first
# to the others, and all zeros just if these ways depend on one another.
def normal_of(chosen):
    ways = [difference(point, chosen[0]) for point in chosen[1:]]
    normal = []
    sign = 1
    for column in range(len(chosen[0])):
        normal.append(sign * determinant([without_column(way, column) for way in ways]))
        sign = -sign
    return tuple(normal)


def determinant(rows):
    if not rows:
        return 1
    total = 0
    sign = 1
    for column in range(len(rows)):
        rest = [without_column(row, column) for row in rows[1:]]
        total += sign * rows[0][column] * determinant(rest)
        sign = -sign
    return total


def rank(rows):
    rest = rows
    found = 0
    while rest:
        head = rest[0]
        rest = rest[1:]
        if any(head):
            column = first_column(head)
            rest = [cleared(row, head, column) for row in rest]
            found += 1
    return found


def first_column(row):
    column = 0
    while row[column] == 0:
        column += 1
    return column


# Both rows are multiplied, not divided, so that the numbers stay whole.
def cleared(row, head, column):
    return [head[column] * x - row[column] * y for x, y in zip(row, head)]


def without_column(row, column):
    return row[:column] + row[column + 1:]


def difference(point, other):
    return tuple([x - y for x, y in zip(point, other)])


def opposite(normal):
    return tuple([-a for a in normal])


def value_at(normal, point):
    return sum([a * x for a, x in zip(normal, point)])


def without_common_divisor(normal):
    divisor = 0
    for a in normal:
        divisor = common_divisor(divisor, abs(a))
    return tuple([a // divisor for a in normal])


def common_divisor(a, b):
    while b != 0:
        rest = a % b
        a = b
        b = rest
    return a
