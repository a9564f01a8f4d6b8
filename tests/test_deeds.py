"""Points 1 to 6 and 8 to 12: cut, joined, summed, shadowed, mapped."""

import unittest
from fractions import Fraction

from cornerhouse.bodies import Body, by_corners, by_rows
from cornerhouse.deeds import cut, joined, mapped, shadowed, summed
from tests.samples import (
    GREAT, as_point, box, box_rows, empty, every_kind, everything, fractions, holds_all, kept, kinds, one_point,
    orthant, simplex, slow_is_empty, some_body, some_points, unit, units,
)
from tests.slow import Chance, check_body, check_makers, check_rows, dot, told


def added(one, other):
    return as_point([a + b for a, b in zip(fractions(one), fractions(other))])


def pairs(dim):
    """Pairs of kinds, each with some others, all with all where there are few rows."""
    found = list(kinds(dim).values())
    for at, one in enumerate(found):
        for step, other in enumerate(found):
            if dim < 3 or (at + 2 * step) % (3 if dim == 3 else 7) == 0:
                yield one, other


class Deeds(unittest.TestCase):
    def check_made(self, body, dim, corners, rays):
        """That the body is just what the corners and rays make, and is told as it must be."""
        self.assertIs(type(body), Body)
        check_body(self, body, dim)
        self.assertEqual(bool(body.corners), bool(corners))
        if corners:
            check_rows(self, body, corners, rays)

    def both_ways(self, deed, one, other):
        """What the deed makes of both, the same either way round, with nothing changed."""
        before = kept(one), kept(other)
        body = deed(one, other)
        self.assertIs(type(body), Body)
        self.assertEqual(told(body), told(deed(other, one)))
        self.assertEqual((kept(one), kept(other)), before)
        return body


class Cut(Deeds):
    def check(self, one, other):
        body = self.both_ways(cut, one, other)
        check_body(self, body, one.dim)
        rows = one.rows + other.rows
        self.assertEqual(body.is_empty(), slow_is_empty(one.dim, rows))
        if body.corners:
            check_makers(self, body, rows)
        for point in some_points(one.dim, 20) + one.corners + other.corners:
            self.assertEqual(body.holds(point), one.holds(point) and other.holds(point))
        return body

    def test_kinds(self):
        for dim in range(1, 5):
            for one, other in pairs(dim):
                self.check(one, other)

    def test_boxes(self):
        for dim in range(1, 5):
            body = self.check(box((0,) * dim, (GREAT,) * dim), box((-5,) * dim, (1,) * dim))
            self.assertEqual(told(body), told(box((0,) * dim, (1,) * dim)))
            touch = self.check(box((0,) * dim, (1,) * dim), box((1,) * dim, (2,) * dim))
            self.assertEqual(told(touch), told(one_point((1,) * dim)))
            self.assertTrue(self.check(box((0,) * dim, (1,) * dim), box((2,) * dim, (3,) * dim)).is_empty())

    def test_with_the_empty_body_and_all_points(self):
        for name, body in every_kind():
            self.assertEqual(told(self.both_ways(cut, body, empty(body.dim))), told(empty(body.dim)), name)
            self.assertEqual(told(self.both_ways(cut, body, everything(body.dim))), told(body), name)
            self.assertEqual(told(cut(body, body)), told(body), name)

    def test_by_chance(self):
        chance = Chance(21)
        for dim in range(1, 5):
            for great in (2, 5, GREAT):
                for _ in range(6 if dim < 4 else 2):
                    self.check(some_body(chance, dim, great, 3), some_body(chance, dim, great, 3))


class Joined(Deeds):
    def check(self, one, other):
        body = self.both_ways(joined, one, other)
        self.check_made(body, one.dim, one.corners + other.corners, one.rays + other.rays)
        for point in some_points(one.dim, 20):
            if one.holds(point) or other.holds(point):
                self.assertTrue(body.holds(point))
        return body

    def test_kinds(self):
        for dim in range(1, 5):
            for one, other in pairs(dim):
                if len(one.corners) + len(other.corners) < 24:
                    self.check(one, other)

    def test_boxes(self):
        for dim in range(1, 5):
            cube = box((0,) * dim, (1,) * dim)
            self.assertEqual(told(joined(cube, box((0,) * dim, (GREAT,) * dim))), told(box((0,) * dim, (GREAT,) * dim)))
            body = joined(cube, one_point((3,) * dim))
            self.assertEqual(body.holds(((2,) * dim, 1)), True)
            self.assertEqual(body.holds(((3,) + (1,) * (dim - 1), 1)), dim == 1)

    def test_two_points(self):
        body = self.check(one_point((1, 2), 3), one_point((GREAT, 0)))
        self.assertEqual(body.corners, [((1, 2), 3), ((GREAT, 0), 1)])
        self.assertEqual(len(body.rows), 4)

    def test_rays_of_one_go_from_the_other_too(self):
        body = self.check(by_corners(2, [((0, 0), 1)], [(1, 0)]), one_point((0, 1)))
        self.assertEqual((body.corners, body.rays), ([((0, 0), 1), ((0, 1), 1)], [(1, 0)]))
        self.assertEqual(body.rows, [((0, -1), -1), ((0, 1), 0), ((1, 0), 0)])

    def test_two_rays_make_a_line(self):
        body = self.check(by_rows(1, [((1,), 5)]), by_rows(1, [((-1,), 5)]))
        self.assertEqual(told(body), told(everything(1)))

    def test_with_the_empty_body_and_all_points(self):
        for name, body in every_kind():
            self.assertEqual(told(self.both_ways(joined, body, empty(body.dim))), told(body), name)
            self.assertEqual(told(self.both_ways(joined, body, everything(body.dim))), told(everything(body.dim)), name)
            self.assertEqual(told(joined(body, body)), told(body), name)

    def test_by_chance(self):
        chance = Chance(22)
        for dim in range(1, 5):
            for great in (2, 5, GREAT):
                for _ in range(6 if dim < 4 else 2):
                    self.check(some_body(chance, dim, great, 2), some_body(chance, dim, great, 2))


class Summed(Deeds):
    def check(self, one, other):
        body = self.both_ways(summed, one, other)
        corners = [added(corner, more) for corner in one.corners for more in other.corners]
        self.check_made(body, one.dim, sorted(set(corners)), sorted(set(one.rays + other.rays)))
        return body

    def test_kinds(self):
        for dim in range(1, 5):
            for one, other in pairs(dim):
                if len(one.corners) * len(other.corners) < 20:
                    self.check(one, other)

    def test_boxes(self):
        for dim in range(1, 5):
            lows, highs = (-GREAT, 2, 0, -1)[:dim], (GREAT, 5, 1, GREAT)[:dim]
            body = self.both_ways(summed, box((1,) * dim, (3,) * dim), box(lows, highs))
            expected = box(tuple(low + 1 for low in lows), tuple(high + 3 for high in highs))
            self.assertEqual(told(body), told(expected))

    def test_a_point_moves_the_other(self):
        for name, body in every_kind():
            tops = (1, -GREAT, 5, 0)[:body.dim]
            moved = self.both_ways(summed, body, one_point(tops, 3))
            for point in some_points(body.dim, 15):
                self.assertEqual(moved.holds(added(point, (tops, 3))), body.holds(point), name)

    def test_fractions(self):
        body = self.check(by_corners(1, [((1,), 2), ((2,), 3)], []), by_corners(1, [((1,), 3), ((3,), 4)], []))
        self.assertEqual(body.corners, [((5,), 6), ((17,), 12)])

    def test_a_triangle_and_a_square(self):
        body = self.check(simplex(2), box((0, 0), (1, 1)))
        self.assertEqual(body.corners, [((0, 0), 1), ((0, 2), 1), ((1, 2), 1), ((2, 0), 1), ((2, 1), 1)])
        for point, expected in ((((2, 2), 1), False), (((3, 3), 2), True), (((31, 30), 20), False)):
            self.assertIs(body.holds(point), expected)

    def test_rays_of_either(self):
        body = self.check(by_corners(2, [((1, 1), 1)], [(1, 0)]), by_corners(2, [((0, 0), 1), ((0, 3), 2)], [(0, 1)]))
        self.assertEqual(told(body), (2, [((0, 1), 1), ((1, 0), 1)], [((1, 1), 1)], [(0, 1), (1, 0)]))
        body = self.check(by_corners(2, [((0, 0), 1)], [(1, 1)]), by_corners(2, [((0, 0), 1)], [(-1, -1), (1, 0)]))
        self.assertEqual((len(body.rays), body.rows), (3, [((1, -1), 0)]))

    def test_with_the_empty_body(self):
        for name, body in every_kind():
            self.assertEqual(told(self.both_ways(summed, body, empty(body.dim))), told(empty(body.dim)), name)
            self.assertEqual(told(summed(body, one_point((0,) * body.dim))), told(body), name)

    def test_sums_of_points_lie_in_it(self):
        chance = Chance(23)
        for dim in range(1, 5):
            for great in (2, GREAT):
                for _ in range(4 if dim < 4 else 2):
                    one, other = some_body(chance, dim, great, 2), some_body(chance, dim, great, 2)
                    body = self.both_ways(summed, one, other)
                    check_body(self, body, dim)
                    for corner in one.corners:
                        for more in other.corners:
                            self.assertTrue(body.holds(added(corner, more)))
                            for ray in one.rays + other.rays:
                                self.assertTrue(body.holds(added(added(corner, more), (ray, 1))))

    def test_by_chance(self):
        chance = Chance(24)
        for dim in range(1, 5):
            for great in (2, 5, GREAT):
                for _ in range(5 if dim < 4 else 2):
                    one, other = some_body(chance, dim, great, 1), some_body(chance, dim, great, 1)
                    if len(one.corners) * len(other.corners) < 20:
                        self.check(one, other)


class Shadowed(Deeds):
    def stands_over(self, body, axis, point):
        """Whether some point of the body has the point as its shadow: its rows leave a stretch along the axis."""
        low, high = None, None
        numbers = fractions(point)
        for a, b in body.rows:
            rest = b - dot(a[:axis] + a[axis + 1:], numbers)
            if a[axis] == 0:
                if rest > 0:
                    return False
                continue
            end = Fraction(rest) / a[axis]
            if a[axis] > 0:
                low = end if low is None else max(low, end)
            else:
                high = end if high is None else min(high, end)
        return low is None or high is None or low <= high

    def check(self, body, axis):
        before = kept(body)
        shadow = shadowed(body, axis)
        self.assertEqual(kept(body), before)
        corners = [(tops[:axis] + tops[axis + 1:], bottom) for tops, bottom in body.corners]
        rays = [ray[:axis] + ray[axis + 1:] for ray in body.rays]
        self.check_made(shadow, body.dim - 1, corners, [ray for ray in rays if any(ray)])
        for point in some_points(body.dim - 1, 20) + corners:
            self.assertEqual(shadow.holds(point), self.stands_over(body, axis, point))
        return shadow

    def test_kinds(self):
        for dim in range(2, 5):
            for body in kinds(dim).values():
                for axis in range(dim):
                    self.check(body, axis)

    def test_boxes(self):
        lows, highs = (-GREAT, 2, 0, -1), (GREAT, 5, 1, 7)
        for dim in range(2, 5):
            for axis in range(dim):
                left = [k for k in range(dim) if k != axis]
                expected = box(tuple(lows[k] for k in left), tuple(highs[k] for k in left))
                self.assertEqual(told(self.check(box(lows[:dim], highs[:dim]), axis)), told(expected))

    def test_a_ray_along_the_axis(self):
        for dim in range(2, 5):
            for axis in range(dim):
                for rays in ([unit(dim, axis)], [unit(dim, axis, -1)], [unit(dim, axis), unit(dim, axis, -1)]):
                    body = by_corners(dim, [((2,) * dim, 3)], rays)
                    self.assertEqual(told(self.check(body, axis)), told(one_point((2,) * (dim - 1), 3)))
                self.assertEqual(told(self.check(orthant(dim), axis)), told(orthant(dim - 1)))

    def test_rays_that_become_a_line(self):
        body = by_corners(2, [((0, 0), 1)], [(1, 1), (-1, 1)])
        self.assertEqual(told(self.check(body, 1)), told(everything(1)))
        self.assertEqual(told(self.check(body, 0)), told(orthant(1)))

    def test_the_shadow_of_a_corner_between(self):
        body = by_corners(2, [((0, 0), 1), ((2, 1), 2), ((2, 0), 1)], [])
        self.assertEqual(self.check(body, 1).corners, [((0,), 1), ((2,), 1)])

    def test_lowest_terms(self):
        body = by_corners(2, [((2, 1), 4), ((3, 0), 6)], [(4, 3)])
        self.assertEqual(told(self.check(body, 1)), (1, [((2,), 1)], [((1,), 2)], [(1,)]))

    def test_empty(self):
        for dim in range(2, 5):
            for axis in range(dim):
                self.assertEqual(told(shadowed(empty(dim), axis)), told(empty(dim - 1)))

    def test_by_chance(self):
        chance = Chance(25)
        for dim in range(2, 5):
            for great in (2, 5, GREAT):
                for _ in range(5):
                    body = some_body(chance, dim, great, 3)
                    for axis in range(dim):
                        self.check(body, axis)


class Mapped(Deeds):
    def image(self, table, shift, point):
        return as_point([dot(row, fractions(point)) + step for row, step in zip(table, shift, strict=True)])

    def check(self, body, table, shift):
        before = kept(body), list(table)
        found = mapped(body, table, shift)
        self.assertEqual((kept(body), table), before)
        corners = [self.image(table, shift, corner) for corner in body.corners]
        rays = [tuple(dot(row, ray) for row in table) for ray in body.rays]
        self.check_made(found, len(table), corners, [ray for ray in rays if any(ray)])
        for point in some_points(body.dim, 12):
            if body.holds(point):
                self.assertTrue(found.holds(self.image(table, shift, point)))
        return found

    def test_kinds(self):
        chance = Chance(26)
        for dim in range(1, 5):
            for body in kinds(dim).values():
                for rows in range(1, 5):
                    if len(body.corners) > 16 and rows > 2:
                        continue
                    table = [chance.tuple_of(dim, (1, 3, GREAT)[rows % 3]) for _ in range(rows)]
                    self.check(body, table, chance.tuple_of(rows, 4))

    def test_the_same_again(self):
        for name, body in every_kind():
            self.assertEqual(told(mapped(body, units(body.dim), (0,) * body.dim)), told(body), name)

    def test_there_and_back(self):
        table, back = [(1, GREAT, 0), (0, 1, 5), (0, 0, 1)], [(1, -GREAT, 5 * GREAT), (0, 1, -5), (0, 0, 1)]
        for name, body in kinds(3).items():
            there = mapped(body, table, (0, 0, 0))
            self.assertEqual(told(mapped(there, back, (0, 0, 0))), told(body), name)
            for point in some_points(3, 15):
                self.assertEqual(there.holds(self.image(table, (0, 0, 0), point)), body.holds(point), name)

    def test_noughts(self):
        for name, body in every_kind():
            for rows in range(1, 5):
                shift = (3, -GREAT, 0, 1)[:rows]
                found = mapped(body, [(0,) * body.dim] * rows, shift)
                self.assertEqual(told(found), told(empty(rows) if body.is_empty() else one_point(shift)), name)

    def test_a_ray_becomes_noughts(self):
        body = by_corners(2, [((0, 0), 1), ((1, 0), 2)], [(1, 1)])
        found = self.check(body, [(2, -2)], (1,))
        self.assertEqual(told(found), (1, [((-1,), -2), ((1,), 1)], [((1,), 1), ((2,), 1)], []))
        self.assertEqual(told(self.check(orthant(3), [(1, 0, 0), (0, 1, 0)], (4, 5))),
                         (2, [((0, 1), 5), ((1, 0), 4)], [((4, 5), 1)], [(0, 1), (1, 0)]))

    def test_a_shift(self):
        for dim in range(1, 5):
            shift = (GREAT, -1, 0, 7)[:dim]
            found = self.check(box((0,) * dim, (2,) * dim), units(dim, 3), shift)
            self.assertEqual(found.rows, sorted(box_rows(shift, tuple(step + 6 for step in shift))))

    def test_a_shift_of_fractions(self):
        self.assertEqual(mapped(one_point((1, 2), 3), [(1, 0), (3, 3), (0, 0)], (1, -1, 5)).corners, [((4, 6, 15), 3)])

    def test_empty(self):
        for dim in range(1, 5):
            for rows in range(1, 5):
                found = self.check(empty(dim), [(1,) * dim] * rows, (1,) * rows)
                self.assertEqual(told(found), told(empty(rows)))


class Again(unittest.TestCase):
    """What is told is handed in again, and stays as it was."""

    def test_deeds_of_deeds(self):
        for dim in range(2, 5):
            one, other = simplex(dim, 3), box((-1,) * dim, (1,) * dim)
            first = cut(joined(one, other), summed(one, other))
            kept_first = kept(first)
            second = mapped(shadowed(first, 0), units(dim - 1, 2), (1,) * (dim - 1))
            self.assertFalse(second.is_empty())
            self.assertEqual(kept(first), kept_first)
            self.assertEqual(told(cut(joined(one, other), summed(one, other))), kept_first)

    def test_lists_are_the_bodys_own(self):
        one, other = box((0, 0), (1, 1)), empty(2)
        for deed in (cut, joined, summed):
            for first, second in ((one, other), (other, one), (one, one)):
                before = kept(one), kept(other)
                body = deed(first, second)
                for things in (body.rows, body.corners, body.rays):
                    things.append("more")
                self.assertEqual((kept(one), kept(other)), before)
        for body in (mapped(one, units(2), (0, 0)), shadowed(one, 0)):
            body.rows.clear()
            body.corners.clear()
        self.assertTrue(holds_all(one.rows, one.corners[0]))
        self.assertEqual(len(one.corners), 4)


if __name__ == "__main__":
    unittest.main()
