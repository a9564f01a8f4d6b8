"""Points 1 to 6: each telling of a body, and the other that is made from it."""

import unittest
from itertools import product as every

from cornerhouse.bodies import Body, by_corners, by_rows
from tests.slow import Chance, check_body, check_makers, check_rows, dot, told

GREAT = 10 ** 12


def unit(dim, axis, sign=1):
    return tuple(sign if k == axis else 0 for k in range(dim))


def side_rows(sides):
    """The rows of a body with a low and a high end for each axis, None where there is none."""
    rows = []
    for axis, (low, high) in enumerate(sides):
        if low is not None:
            rows.append((unit(len(sides), axis), low))
        if high is not None:
            rows.append((unit(len(sides), axis, -1), -high))
    return rows


def side_makers(sides):
    """The corners and rays of that body; where an axis has no end its line is told both ways."""
    ends = [[end for end in pair if end is not None] or [0] for pair in sides]
    corners = [(tops, 1) for tops in every(*ends)]
    rays = []
    for axis, (low, high) in enumerate(sides):
        if low is None:
            rays.append(unit(len(sides), axis, -1))
        if high is None:
            rays.append(unit(len(sides), axis))
    return corners, rays


def holds_row(row, point):
    return dot(row[0], point[0]) >= row[1] * point[1]


class Told(unittest.TestCase):
    def rows(self, dim, rows):
        """The body that rows tell, with all that is promised of it checked."""
        handed = list(rows)
        body = by_rows(dim, rows)
        self.assertEqual(rows, handed)
        self.assertIs(type(body), Body)
        check_body(self, body, dim)
        if body.corners:
            check_makers(self, body, rows)
        self.check_needed(body)
        self.check_again(body)
        return body

    def corners(self, dim, corners, rays):
        """The body that corners and rays make, with all that is promised of it checked."""
        handed = list(corners), list(rays)
        body = by_corners(dim, corners, rays)
        self.assertEqual((corners, rays), handed)
        self.assertIs(type(body), Body)
        check_body(self, body, dim)
        self.assertEqual(bool(body.corners), bool(corners))
        if body.corners:
            check_rows(self, body, corners, rays)
        self.check_needed(body)
        self.check_again(body)
        return body

    def check_again(self, body):
        """Told by its own rows, or its own corners and rays, it is the same again."""
        kept = body.dim, list(body.rows), list(body.corners), list(body.rays)
        for again in (by_rows(body.dim, body.rows), by_corners(body.dim, body.corners, body.rays)):
            self.assertEqual(told(again), kept)
        self.assertEqual(told(body), kept)

    def check_needed(self, body):
        """Nothing can be left out: something shows it of each row, each corner and each ray."""
        for at, row in enumerate(body.rows):
            others = body.rows[:at] + body.rows[at + 1:]
            more = by_rows(body.dim, others)
            self.assertTrue(all(holds_row(other, corner) for other in others for corner in more.corners))
            self.assertTrue(all(dot(other[0], ray) >= 0 for other in others for ray in more.rays))
            outside = [corner for corner in more.corners if not holds_row(row, corner)]
            outside += [ray for ray in more.rays if dot(row[0], ray) < 0]
            self.assertTrue(outside)
        for at, corner in enumerate(body.corners):
            less = by_corners(body.dim, body.corners[:at] + body.corners[at + 1:], body.rays)
            self.assertFalse(all(holds_row(row, corner) for row in less.rows))
        for at, ray in enumerate(body.rays):
            less = by_corners(body.dim, body.corners, body.rays[:at] + body.rays[at + 1:])
            self.assertFalse(all(dot(row[0], ray) >= 0 for row in less.rows))


class Examples(Told):
    def test_three_corners(self):
        body = self.rows(2, [((1, 0), 0), ((0, 1), 0), ((-1, -1), -1)])
        self.assertEqual(body.rows, [((-1, -1), -1), ((0, 1), 0), ((1, 0), 0)])
        self.assertEqual(body.corners, [((0, 0), 1), ((0, 1), 1), ((1, 0), 1)])
        self.assertEqual(body.rays, [])

    def test_fractions(self):
        body = self.rows(1, [((3,), 1), ((-4,), -6)])
        self.assertEqual(told(body), (1, [((-2,), -3), ((3,), 1)], [((1,), 3), ((3,), 2)], []))

    def test_lowest_terms_of_what_is_told(self):
        body = self.rows(2, [((2, 4), 6), ((6, 0), 0), ((0, 10), 5), ((-7, 0), -21), ((0, -3), -9)])
        self.assertEqual(body.rows, [((-1, 0), -3), ((0, -1), -3), ((0, 2), 1), ((1, 0), 0), ((1, 2), 3)])
        self.assertEqual(body.corners, [((0, 3), 1), ((0, 3), 2), ((3, 3), 1), ((4, 1), 2), ((6, 1), 2)])

    def test_a_wedge(self):
        body = self.corners(2, [((3, 6), 3)], [(4, 2), (1, 2), (1, 1), (2, 1)])
        self.assertEqual(body.rows, [((-1, 2), 3), ((2, -1), 0)])
        self.assertEqual((body.corners, body.rays), ([((1, 2), 1)], [(1, 2), (2, 1)]))

    def test_an_octahedron(self):
        corners = [(unit(3, axis, sign), 1) for axis in range(3) for sign in (1, -1)]
        body = self.corners(3, corners, [])
        self.assertEqual(body.rows, sorted((a, -1) for a in every((1, -1), repeat=3)))
        self.assertEqual(told(by_rows(3, body.rows)), told(body))

    def test_crossed_ends_of_four(self):
        corners = [(unit(4, axis, sign), 2) for axis in range(4) for sign in (1, -1)]
        body = self.corners(4, corners, [])
        self.assertEqual(body.rows, sorted(((tuple(2 * n for n in a), -1) for a in every((1, -1), repeat=4))))

    def test_a_corner_that_many_rows_meet(self):
        # Five sides meet at the top, where three would do for a corner.
        corners = [((2, 0, 0), 1), ((0, 2, 0), 1), ((-2, 1, 0), 1), ((-2, -1, 0), 1), ((1, -2, 0), 1), ((0, 0, 3), 1)]
        body = self.corners(3, corners, [])
        self.assertEqual((body.corners, len(body.rows)), (sorted(corners), 6))


class Boxes(Told):
    def sides(self, chance, dim, great):
        out = []
        for _ in range(dim):
            low = chance.between(-great, great - 1)
            out.append((low, chance.between(low + 1, great)))
        return out

    def test_either_way(self):
        chance = Chance(4)
        for dim in range(1, 5):
            for great in (1, 5, GREAT):
                sides = self.sides(chance, dim, great)
                rows, (corners, rays) = side_rows(sides), side_makers(sides)
                expected = (dim, sorted(rows), sorted(corners), [])
                self.assertEqual(told(self.rows(dim, chance.shuffled(rows))), expected)
                self.assertEqual(told(self.corners(dim, chance.shuffled(corners), rays)), expected)

    def test_with_more_than_is_needed(self):
        chance = Chance(5)
        for dim in range(1, 5):
            for great in (3, GREAT):
                sides = self.sides(chance, dim, great)
                rows, corners = side_rows(sides), side_makers(sides)[0]
                expected = (dim, sorted(rows), sorted(corners), [])
                twice = rows + rows[:2] + [(tuple(3 * n for n in a), 3 * b) for a, b in rows[1:]]
                looser = [(a, b - chance.between(1, 9)) for a, b in rows] + [((0,) * dim, 0), ((0,) * dim, -4)]
                self.assertEqual(told(self.rows(dim, chance.shuffled(twice + looser))), expected)
                between = corners[:2] + [(tuple(5 * n for n in tops), 5) for tops, bottom in corners[1:]]
                for _ in range(4):
                    one, other = chance.shuffled(corners)[:2]
                    part = chance.between(1, 6)
                    tops = tuple(part * a + (7 - part) * b for a, b in zip(one[0], other[0]))
                    between.append((tops, 7))
                self.assertEqual(told(self.corners(dim, chance.shuffled(corners + between), [])), expected)


class WithoutEnd(Told):
    def test_some_sides(self):
        for dim in range(1, 5):
            for sides in every(((-1, 2), (3, None), (None, GREAT), (None, None)), repeat=dim):
                if dim == 4 and len(set(sides)) < 3:
                    continue
                rows, (corners, rays) = side_rows(sides), side_makers(sides)
                first = self.rows(dim, rows)
                second = self.corners(dim, corners, rays)
                self.assertEqual(first.rows, sorted(rows))
                self.assertEqual(sorted(first.rays), sorted(rays))
                self.assertEqual(len(first.corners), len(corners))
                if (None, None) not in sides:
                    self.assertEqual(first.corners, sorted(corners))
                self.assertEqual(told(first), told(second))

    def test_all_points(self):
        for dim in range(1, 5):
            rays = [unit(dim, axis, sign) for axis in range(dim) for sign in (1, -1)]
            for body in (
                self.rows(dim, []),
                self.rows(dim, [((0,) * dim, 0)]),
                self.rows(dim, [((0,) * dim, -3), ((0,) * dim, -GREAT)]),
                self.corners(dim, [((7,) * dim, 2)], rays + [(1,) * dim]),
                self.corners(dim, [((0,) * dim, 1)], [unit(dim, axis) for axis in range(dim)] + [(-1,) * dim]),
            ):
                self.assertEqual((body.rows, len(body.corners), len(body.rays)), ([], 1, 2 * dim))

    def test_lines(self):
        band = self.rows(2, [((1, -1), 0), ((-1, 1), -4)])
        self.assertEqual((band.rays, len(band.corners)), ([(-1, -1), (1, 1)], 2))
        self.assertEqual(band.rows, [((-1, 1), -4), ((1, -1), 0)])
        half = self.rows(3, [((1, 2, 3), 4)])
        self.assertEqual((half.rows, len(half.corners), len(half.rays)), ([((1, 2, 3), 4)], 1, 5))
        made = self.corners(3, [((0, 0, 0), 1)], [(1, 0, 0), (-2, 0, 0), (0, 1, 1), (5, 1, 1), (-5, 2, 0)])
        self.assertEqual(len(made.rays), 4)

    def test_a_line_from_rays_that_are_no_opposites(self):
        body = self.corners(2, [((0, 5), 1)], [(1, 0), (-1, 1), (-1, -1)])
        self.assertEqual((body.rows, len(body.rays)), ([], 4))


class Flat(Told):
    def test_one_point(self):
        for dim in range(1, 5):
            for tops, bottom in (((0,) * dim, 1), (tuple(range(-1, dim - 1)), 3), ((GREAT, -GREAT, 5, 1)[:dim], 7)):
                body = self.corners(dim, [(tops, bottom), (tuple(4 * n for n in tops), 4 * bottom)], [])
                self.assertEqual((body.corners, body.rays, len(body.rows)), ([(tops, bottom)], [], 2 * dim))
                rows = [(unit(dim, axis, sign * bottom), sign * tops[axis]) for axis in range(dim) for sign in (1, -1)]
                self.assertEqual(told(self.rows(dim, rows)), told(body))

    def test_rows_that_leave_one_point(self):
        body = self.rows(2, [((1, 0), 1), ((0, 1), 1), ((-1, -1), -2)])
        self.assertEqual((body.corners, len(body.rows)), ([((1, 1), 1)], 4))

    def test_a_row_with_its_opposite(self):
        for dim in range(1, 5):
            row = (tuple(range(1, dim + 1)), 5)
            other = (tuple(-number for number in row[0]), -5)
            body = self.rows(dim, [other, row])
            self.assertEqual((body.rows, len(body.corners), len(body.rays)), ([other, row], 1, 2 * dim - 2))

    def test_a_stretch_in_space(self):
        for dim in range(2, 5):
            ends = [((1, 2, 3, 4)[:dim], 1), ((-1, 5, 0, GREAT)[:dim], 1)]
            middle = (tuple(a + b for a, b in zip(ends[0][0], ends[1][0])), 2)
            body = self.corners(dim, [middle] + ends, [])
            self.assertEqual((body.corners, len(body.rows)), (sorted(ends), 2 * dim))
            self.assertEqual(told(self.rows(dim, body.rows[::-1])), told(body))

    def test_a_square_in_space(self):
        corners = [((x, y, x + y), 1) for x in (0, 1) for y in (0, 1)]
        body = self.corners(3, corners, [])
        self.assertEqual((body.corners, len(body.rows)), (corners, 6))

    def test_flat_without_end(self):
        body = self.corners(3, [((1, 1, 1), 2)], [(1, 0, 0), (0, 1, 0)])
        self.assertEqual((body.corners, body.rays, len(body.rows)), ([((1, 1, 1), 2)], [(0, 1, 0), (1, 0, 0)], 4))
        self.corners(4, [((1, 1, 1, 0), 2)], [(1, 0, 0, 1), (0, 1, 0, 1), (0, -1, 0, -1)])


class Empty(Told):
    def test_told_by_rows(self):
        for dim in range(1, 5):
            one = unit(dim, dim - 1)
            for rows in (
                [((0,) * dim, 1)],
                [((0,) * dim, GREAT), (one, 0)],
                [(one, 1), (tuple(-number for number in one), 0)],
                [(one, 0), (tuple(-2 * number for number in one), 1), ((1,) * dim, 3)],
            ):
                body = self.rows(dim, rows)
                self.assertEqual(told(body), (dim, [((0,) * dim, 1)], [], []))

    def test_only_together(self):
        # Each two of the three rows are held by some point.
        rows = [((1, 0), 0), ((0, 1), 0), ((-GREAT, -GREAT), 1)]
        for left_out in range(3):
            self.assertFalse(self.rows(2, rows[:left_out] + rows[left_out + 1:]).is_empty())
        self.assertTrue(self.rows(2, rows).is_empty())

    def test_told_by_corners(self):
        for dim in range(1, 5):
            for rays in ([], [(1,) * dim], [unit(dim, 0), unit(dim, 0, -1)]):
                body = self.corners(dim, [], rays)
                self.assertEqual(told(body), (dim, [((0,) * dim, 1)], [], []))

    def test_holds_nothing(self):
        for body in (by_rows(2, [((0, 0), 1)]), by_corners(2, [], [(1, 0)])):
            self.assertIs(body.holds(((0, 0), 1)), False)


class Many(Told):
    def test_rows(self):
        chance = Chance(6)
        for dim in range(1, 5):
            for great in (1, 4, GREAT):
                for turn in range(14 if dim < 4 else 8):
                    rows = []
                    for _ in range(chance.between(1, 4 + dim)):
                        a = chance.tuple_of(dim, great)
                        # Every second time, all rows hold one point, so that the body is not empty.
                        b = sum(a) - chance.between(0, 2) * great if turn % 2 else chance.between(-great, great)
                        rows.append((a, b))
                        if turn % 5 == 4:
                            rows.append((tuple(-number for number in a), -b))
                    self.rows(dim, rows)

    def test_corners(self):
        chance = Chance(7)
        for dim in range(1, 5):
            for great in (1, 4, GREAT):
                for turn in range(14 if dim < 4 else 8):
                    corners = []
                    for _ in range(chance.between(1, 3 + dim)):
                        corners.append((chance.tuple_of(dim, great), chance.between(1, great if turn % 2 else 1)))
                    rays = [chance.tuple_of(dim, great) for _ in range(chance.between(0, 3) if turn % 3 else 0)]
                    if turn % 7 == 6:
                        rays.append(tuple(-number for number in (rays + [(1,) * dim])[0]))
                    self.corners(dim, corners, [ray for ray in rays if any(ray)])

    def test_the_same_however_told(self):
        chance = Chance(8)
        for dim in range(1, 5):
            for great in (3, GREAT):
                corners = [(chance.tuple_of(dim, great), chance.between(1, 3)) for _ in range(dim + 4)]
                body = by_corners(dim, corners, [])
                for _ in range(3):
                    corners = chance.shuffled(corners) + [chance.shuffled(corners)[0]]
                    self.assertEqual(told(by_corners(dim, corners, [])), told(body))
                    self.assertEqual(told(by_rows(dim, chance.shuffled(body.rows))), told(body))

    def test_the_same_once_more(self):
        rows = [((1, 2), 3), ((-1, 5), 0), ((0, -1), -4)]
        first = told(by_rows(2, rows))
        by_corners(2, [((1, 2), 3)], [(1, 1)])
        by_rows(2, [])
        self.assertEqual(told(by_rows(2, rows)), first)

    def test_told_lists_are_the_bodys_own(self):
        for make in (lambda: by_rows(2, [((0, 0), 1)]), lambda: by_rows(2, []), lambda: by_corners(2, [], [])):
            body = make()
            kept = body.dim, list(body.rows), list(body.corners), list(body.rays)
            body.rows.append("more")
            body.corners.append("more")
            body.rays.append("more")
            self.assertEqual(told(make()), kept)

    def test_the_bodys_lists_are_not_those_handed_in(self):
        rows, corners, rays = [((1,), 0)], [((0,), 1)], [(1,)]
        first, second = by_rows(1, rows), by_corners(1, corners, rays)
        for things in (rows, corners, rays):
            things.clear()
        for body in (first, second):
            self.assertEqual(told(body), (1, [((1,), 0)], [((0,), 1)], [(1,)]))


class Asked(unittest.TestCase):
    def test_is_empty(self):
        self.assertIs(by_rows(1, [((1,), 0), ((-1,), 1)]).is_empty(), True)
        self.assertIs(by_rows(1, [((1,), 0), ((-1,), 0)]).is_empty(), False)
        self.assertIs(by_rows(1, []).is_empty(), False)

    def test_is_bounded(self):
        self.assertIs(by_rows(1, [((1,), 0), ((-1,), -1)]).is_bounded(), True)
        self.assertIs(by_rows(1, [((1,), 0)]).is_bounded(), False)
        self.assertIs(by_rows(3, []).is_bounded(), False)
        self.assertIs(by_rows(1, [((0,), 1)]).is_bounded(), True)
        self.assertIs(by_corners(2, [], [(1, 0)]).is_bounded(), True)
        self.assertIs(by_corners(2, [((0, 0), 1)], [(1, 0)]).is_bounded(), False)

    def test_holds(self):
        body = by_rows(2, [((1, 0), 0), ((0, 1), 0), ((-2, -2), -3)])
        for point, expected in (
            (((1, 1), 2), True),
            (((0, 0), 1), True),
            (((0, 0), 9), True),
            (((0, 3), 2), True),
            (((0, 30), 20), True),
            (((3, 3), 4), True),
            (((6, 6), 8), True),
            (((3 * GREAT + 1, 3 * GREAT), 4 * GREAT), False),
            (((3 * GREAT, 3 * GREAT), 4 * GREAT), True),
            (((-1, 0), GREAT), False),
            (((1, 1), 1), False),
            (((4, 4), 4), False),
            (((-1, 5), 1), False),
        ):
            self.assertIs(body.holds(point), expected, point)

    def test_holds_its_corners_and_what_rays_make(self):
        body = by_corners(3, [((1, 2, 3), 2), ((0, 0, 0), 1)], [(1, 0, 0)])
        for point, expected in (
            (((1, 2, 3), 2), True),
            (((1, 2, 3), 4), True),
            (((GREAT, 2, 3), 4), True),
            (((0, 2, 3), 4), False),
            (((1, 2, 4), 4), False),
            (((1, 2, 3), 1), False),
        ):
            self.assertIs(body.holds(point), expected, point)

    def test_holds_changes_nothing(self):
        body = by_corners(1, [((0,), 1), ((1,), 1)], [])
        kept = told(by_corners(1, [((0,), 1), ((1,), 1)], []))
        self.assertTrue(body.holds(((2,), 4)))
        self.assertTrue(body.holds(((2,), 4)))
        self.assertEqual(told(body), kept)


if __name__ == "__main__":
    unittest.main()
