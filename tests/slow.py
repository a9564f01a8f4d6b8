"""Slow and plain ways to the same answers, which share no code with the program, and checks that use them.

A cone's rays are told apart by their products with the rows, in lowest terms: rays that differ by lines only have
the same products, all others do not. So two tellings of a cone are compared without a choice among its rays.
"""

from fractions import Fraction
from functools import cache
from math import gcd


class Chance:
    """Numbers that look like chance, the same in each run."""

    def __init__(self, seed):
        self.state = seed * 2654435761 + 12345

    def between(self, low, high):
        self.state = (self.state * 6364136223846793005 + 1442695040888963407) % 2 ** 64
        return low + (self.state >> 16) % (high - low + 1)

    def tuple_of(self, count, size):
        return tuple(self.between(-size, size) for _ in range(count))

    def shuffled(self, things):
        rest = list(things)
        out = []
        while rest:
            out.append(rest.pop(self.between(0, len(rest) - 1)))
        return out


def dot(one, other):
    return sum(a * b for a, b in zip(one, other, strict=True))


def in_lowest(numbers):
    return gcd(*numbers) <= 1


def slow_lowest(numbers):
    common = gcd(*numbers) or 1
    return tuple(number // common for number in numbers)


def slow_rank(rows):
    """How many steps are left when the rows are brought to steps, by fractions."""
    table = [[Fraction(number) for number in row] for row in rows]
    steps = 0
    for place in range(len(table[0]) if table else 0):
        at = next((k for k in range(steps, len(table)) if table[k][place] != 0), None)
        if at is None:
            continue
        table[steps], table[at] = table[at], table[steps]
        step = table[steps]
        for k in range(steps + 1, len(table)):
            times = table[k][place] / step[place]
            table[k] = [x - times * y for x, y in zip(table[k], step)]
        steps += 1
    return steps


def narrowed(tuples, row):
    """Tuples that make all that these make and whose product with the row is nought; None where all of it is so."""
    products = [dot(row, numbers) for numbers in tuples]
    at = next((k for k, part in enumerate(products) if part), None)
    if at is None:
        return None
    first, part = tuples[at], products[at]
    return [slow_lowest([part * x - other * y for x, y in zip(numbers, first)])
            for numbers, other in zip(tuples[:at] + tuples[at + 1:], products[:at] + products[at + 1:])]


def null_choices(rows, tuples, many):
    """What is left of the tuples by each choice of so many rows, none made of the others."""
    if many == 0:
        yield tuples
        return
    for at in range(len(rows) - many + 1):
        rest = narrowed(tuples, rows[at])
        if rest is not None:
            yield from null_choices(rows[at + 1:], rest, many - 1)


def mark(rows, numbers):
    """The products of the rows with the numbers, in lowest terms."""
    return slow_lowest([dot(row, numbers) for row in rows])


@cache
def ray_marks(rows, size):
    """The marks of all rays of the rows' cone that cannot be left out."""
    many = slow_rank(rows)
    if many == 0:
        return frozenset()
    found = set()
    units = [tuple(int(k == place) for k in range(size)) for place in range(size)]
    for tuples in null_choices(sorted({slow_lowest(row) for row in rows}), units, many - 1):
        for marked in {mark(rows, numbers) for numbers in tuples}:
            if any(marked) and min(marked) >= 0:
                found.add(marked)
            if any(marked) and max(marked) <= 0:
                found.add(tuple(-part for part in marked))
    return frozenset(found)


def check_cone(test, rows, size, lines, rays):
    """That lines and rays make the cone of the rows, with nothing to spare."""
    for numbers in lines + rays:
        test.assertIs(type(numbers), tuple)
        test.assertEqual(len(numbers), size)
        test.assertTrue(all(type(number) is int for number in numbers))
        test.assertTrue(any(numbers) and in_lowest(numbers), numbers)
    for line in lines:
        test.assertTrue(all(dot(row, line) == 0 for row in rows))
    test.assertEqual(len(lines), size - slow_rank(rows))
    test.assertEqual(slow_rank(lines), len(lines))
    marks = [mark(rows, ray) for ray in rays]
    test.assertEqual(len(set(marks)), len(marks))
    test.assertEqual(set(marks), ray_marks(tuple(rows), size))


def paired(tuples):
    """One of each two opposites, and all that have none, apart."""
    held = set(tuples)
    pairs, others = [], []
    for numbers in tuples:
        other = tuple(-number for number in numbers)
        if other not in held:
            others.append(numbers)
        elif numbers > other:
            pairs.append(numbers)
    return pairs, others


def flat_rows(rows):
    return [(*a, -b) for a, b in rows]


def flat_makers(corners, rays):
    return [(*tops, bottom) for tops, bottom in corners] + [(*ray, 0) for ray in rays]


def with_bottom(dim, rows):
    return flat_rows(rows) + [(0,) * dim + (1,)]


def check_makers(test, body, rows):
    """That the body's corners and rays make just what the rows tell, with nothing to spare."""
    flat = with_bottom(body.dim, rows)
    lines, others = paired(flat_makers(body.corners, body.rays))
    check_cone(test, flat, body.dim + 1, lines, others)


def check_rows(test, body, corners, rays):
    """That the body's rows tell just what the corners and rays make, with nothing to spare."""
    size = body.dim + 1
    flat = flat_makers(corners, rays)
    lines, others = paired(flat_rows(body.rows))
    # Where all points' row bounds the cone, too, it bounds no body, and is not told.
    bottom = (0,) * body.dim + (1,)
    spare = [bottom] if mark(flat, bottom) in ray_marks(tuple(flat), size) else []
    check_cone(test, flat, size, lines, others + spare)


def check_form(test, body, dim):
    """That the values are of the kinds told, ascend, and have nothing twice."""
    test.assertEqual(body.dim, dim)
    for things in (body.rows, body.corners, body.rays):
        test.assertIs(type(things), list)
        test.assertEqual(things, sorted(set(things)))
    for thing in body.rows + body.corners:
        test.assertIs(type(thing), tuple)
        first, last = thing
        test.assertIs(type(first), tuple)
        test.assertEqual(len(first), dim)
        test.assertTrue(all(type(number) is int for number in (*first, last)))
        test.assertTrue(in_lowest((*first, last)), thing)
    test.assertTrue(all(bottom >= 1 for tops, bottom in body.corners))


def check_empty(test, body):
    test.assertEqual((body.rows, body.corners, body.rays), ([((0,) * body.dim, 1)], [], []))
    test.assertIs(body.is_empty(), True)
    test.assertIs(body.is_bounded(), True)


def check_body(test, body, dim):
    """All that is promised of a body, however it was told."""
    check_form(test, body, dim)
    if not body.corners:
        check_empty(test, body)
        return
    test.assertIs(body.is_empty(), False)
    test.assertIs(body.is_bounded(), not body.rays)
    check_makers(test, body, body.rows)
    check_rows(test, body, body.corners, body.rays)


def told(body):
    return body.dim, body.rows, body.corners, body.rays
