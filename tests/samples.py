"""Bodies of each kind, of one to four dimensions, told by rows and by corners and rays; points to ask them of."""

from fractions import Fraction

from cornerhouse.bodies import by_corners, by_rows
from tests.slow import Chance, dot, ray_marks, slow_lowest, with_bottom

GREAT = 10 ** 12


def unit(dim, axis, sign=1):
    return tuple(sign if k == axis else 0 for k in range(dim))


def units(dim, sign=1):
    return [unit(dim, axis, sign) for axis in range(dim)]


def minus(numbers):
    return tuple(-number for number in numbers)


def box_rows(lows, highs):
    dim = len(lows)
    rows = [(unit(dim, k), low) for k, low in enumerate(lows)]
    return rows + [(unit(dim, k, -1), -high) for k, high in enumerate(highs)]


def box(lows, highs):
    return by_rows(len(lows), box_rows(lows, highs))


def empty(dim):
    return by_rows(dim, [((0,) * dim, 1)])


def everything(dim):
    return by_rows(dim, [])


def one_point(tops, bottom=1):
    return by_corners(len(tops), [(tops, bottom)], [])


def orthant(dim):
    return by_rows(dim, [(one, 0) for one in units(dim)])


def simplex(dim, great=1):
    """The noughts, and the great number on each axis."""
    return by_corners(dim, [((0,) * dim, 1)] + [(one, 1) for one in units(dim, great)], [])


def kinds(dim):
    """A body of each kind, by names; the words behind the dots say how it is told."""
    some = (1, -2, 3, 5)[:dim]
    noughts = (0,) * dim
    flat_row = (tuple(range(1, dim + 1)), 2)
    far = [(one, 3) for one in units(dim, GREAT)]
    found = {
        "box": box((0,) * dim, (1,) * dim),
        "box.great": box((-GREAT, 3, -1, 0)[:dim], (GREAT, GREAT + 1, 7, 1)[:dim]),
        "box.slanted": by_rows(dim, [((1,) * dim, -2), ((-1,) * dim, -3)] + box_rows((-1,) * dim, (2,) * dim)),
        "simplex": simplex(dim, 3),
        "simplex.great": by_corners(dim, [(some, 7), (minus(some), GREAT)] + far, []),
        "orthant": orthant(dim),
        "wedge": by_corners(dim, [(some, 2), (noughts, 1)], [(1,) * dim, unit(dim, dim - 1, 2)]),
        "without end.rows": by_rows(dim, [((2,) * dim, 1), (unit(dim, 0, 3), -5)]),
        "half": by_rows(dim, [(some, 4)]),
        "band": by_rows(dim, [(some, -1), (minus(some), -GREAT)]),
        "line": by_corners(dim, [(noughts, 1)], [some, minus(some)]),
        "lines and a ray": by_corners(dim, [(some, 3)], [unit(dim, 0), unit(dim, 0, -1), unit(dim, dim - 1)]),
        "all": everything(dim),
        "flat.rows": by_rows(dim, [flat_row, (minus(flat_row[0]), -2)]),
        "flat.stretch": by_corners(dim, [(some, 1), (tuple(2 * n + 1 for n in some), 2)], []),
        "flat.ray": by_corners(dim, [(some, 2)], [(1,) * dim]),
        "point": one_point(some, 2),
        "point.rows": by_rows(dim, [(one, 0) for one in units(dim)] + [((-1,) * dim, 0)]),
        "empty": empty(dim),
        "empty.rows": by_rows(dim, [(unit(dim, 0), 1), (unit(dim, 0, -1), 0)]),
        "empty.rays": by_corners(dim, [], [some]),
    }
    if dim > 1:
        found["flat.square"] = by_corners(dim, [((x, y, x + y, x - y)[:dim], 1) for x in (0, 1) for y in (0, 2)], [])
        found["flat.line"] = by_rows(dim, [((1, 0, 0, 0)[:dim], 1), ((-1, 0, 0, 0)[:dim], -1), ((1, 1, 0, 0)[:dim], 0)])
    return found


def every_kind():
    """All of them: (name, body) for each number of dimensions."""
    return [(f"{name} {dim}", body) for dim in range(1, 5) for name, body in kinds(dim).items()]


def some_points(dim, many, seed=11):
    """Points near the noughts, a few of them far away, some not in lowest terms."""
    chance = Chance(seed + dim)
    found = [((0,) * dim, 1), ((2,) * dim, 2), ((GREAT,) * dim, 1)]
    while len(found) < many:
        great = (2, 4, 9, GREAT)[len(found) % 4]
        found.append((chance.tuple_of(dim, great), chance.between(1, 4)))
    return found


def some_body(chance, dim, great, most=4):
    """A body as chance has it, told by rows or by corners and rays."""
    if chance.between(0, 1):
        middle = chance.tuple_of(dim, great)
        rows = []
        for _ in range(chance.between(0, dim + most)):
            a = chance.tuple_of(dim, great)
            rows.append((a, dot(a, middle) - chance.between(-1, 3) * great))
            if not chance.between(0, 9):
                rows.append((minus(rows[-1][0]), -rows[-1][1]))
        return by_rows(dim, rows)
    corners = [(chance.tuple_of(dim, great), chance.between(1, 3)) for _ in range(chance.between(1, most + 1))]
    rays = [chance.tuple_of(dim, great) for _ in range(max(0, chance.between(-2, 2)))]
    if rays and not chance.between(0, 3):
        rays.append(minus(rays[0]))
    return by_corners(dim, corners, [ray for ray in rays if any(ray)])


def holds_row(row, point):
    return dot(row[0], point[0]) >= row[1] * point[1]


def holds_all(rows, point):
    return all(holds_row(row, point) for row in rows)


def fractions(point):
    return tuple(Fraction(top, point[1]) for top in point[0])


def as_point(numbers):
    """The point of such fractions, in lowest terms."""
    bottom = 1
    for number in numbers:
        bottom *= Fraction(number).denominator
    told = slow_lowest([int(number * bottom) for number in numbers] + [bottom])
    return told[:-1], told[-1]


def slow_is_empty(dim, rows):
    """Whether no point holds all rows, by the slow way."""
    return not any(marked[-1] > 0 for marked in ray_marks(tuple(with_bottom(dim, rows)), dim + 1))


def kept(body):
    """What the body tells, copied."""
    return body.dim, list(body.rows), list(body.corners), list(body.rays)


def check_numbers(test, numbers, count):
    """That it is a tuple of so many whole numbers."""
    test.assertIs(type(numbers), tuple)
    test.assertEqual(len(numbers), count)
    test.assertTrue(all(type(number) is int for number in numbers), numbers)


def check_pair(test, pair, dim):
    """That it has the form of a point or a row, whose numbers it returns."""
    test.assertIs(type(pair), tuple)
    test.assertEqual(len(pair), 2)
    check_numbers(test, pair[0], dim)
    test.assertIs(type(pair[1]), int)
    return (*pair[0], pair[1])


def check_told_pair(test, pair, dim):
    """That it has that form, and is in lowest terms."""
    numbers = check_pair(test, pair, dim)
    test.assertEqual(slow_lowest(numbers), numbers)


def check_told_point(test, point, dim):
    check_told_pair(test, point, dim)
    test.assertGreaterEqual(point[1], 1)


def check_weights(test, weights, count):
    """That it is a list of so many numbers, none below nought."""
    test.assertIs(type(weights), list)
    test.assertEqual(len(weights), count)
    test.assertTrue(all(type(weight) is int and weight >= 0 for weight in weights), weights)


def weighted(weights, tuples, size):
    """The sum of the tuples, each its weight times."""
    return tuple(sum(weight * numbers[k] for weight, numbers in zip(weights, tuples, strict=True)) for k in range(size))
