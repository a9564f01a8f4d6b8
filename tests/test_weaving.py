"""Points 1, 3, 13 and 16: woven, within, same. Each answer of woven shows itself, so the tests reckon what it shows."""

import unittest

from cornerhouse.bodies import by_corners, by_rows
from cornerhouse.deeds import cut
from cornerhouse.weaving import same, within, woven
from tests.samples import (
    GREAT, box, check_told_pair, check_weights, empty, every_kind, everything, holds_all, holds_row, kept, kinds, minus,
    one_point, orthant, simplex, some_body, some_points, unit, units, weighted,
)
from tests.slow import Chance, dot


class Woven(unittest.TestCase):
    def check(self, dim, corners, rays, point):
        """The kind of answer, with all that point 16 says of it reckoned."""
        handed = list(corners), list(rays)
        found = woven(dim, corners, rays, point)
        self.assertEqual((corners, rays), handed)
        self.assertIs(type(found), tuple)
        if found[0] == "made":
            self.check_made(dim, corners, rays, point, *found[1:])
        else:
            self.assertEqual(found[0], "row")
            self.check_row(dim, corners, rays, point, *found[1:])
        return found[0]

    def check_made(self, dim, corners, rays, point, weights, spans, scale):
        check_weights(self, weights, len(corners))
        check_weights(self, spans, len(rays))
        self.assertIs(type(scale), int)
        self.assertGreaterEqual(scale, 1)
        tops = weighted(weights, [tops for tops, bottom in corners], dim)
        along = weighted(spans, rays, dim)
        self.assertEqual(tuple(a + b for a, b in zip(tops, along)), tuple(scale * top for top in point[0]))
        self.assertEqual(sum(weight * bottom for weight, (tops, bottom) in zip(weights, corners)), scale * point[1])

    def check_row(self, dim, corners, rays, point, row):
        check_told_pair(self, row, dim)
        self.assertTrue(all(holds_row(row, corner) for corner in corners))
        self.assertTrue(all(dot(row[0], ray) >= 0 for ray in rays))
        self.assertFalse(holds_row(row, point))

    def test_made(self):
        corners = [((0, 0), 1), ((4, 0), 1), ((0, 4), 1)]
        self.assertEqual(woven(2, corners, [], ((1, 1), 1)), ("made", [2, 1, 1], [], 4))
        for point in corners + [((2, 2), 1), ((1, 0), GREAT), ((3, 1), 1), ((4, 4), 3)]:
            self.assertEqual(self.check(2, corners, [], point), "made")
        self.assertEqual(woven(1, [((1,), 1)], [(2,)], ((6,), 1)), ("made", [2], [5], 2))

    def test_row(self):
        corners = [((0, 0), 1), ((4, 0), 1), ((0, 4), 1)]
        for point in (((5, 0), 1), ((-1, 0), GREAT), ((2 * GREAT + 1, 2 * GREAT), GREAT), ((-1, -1), 1)):
            self.assertEqual(self.check(2, corners, [], point), "row")
        self.assertEqual(woven(1, [((1,), 1)], [(2,)], ((1,), 2)), ("row", ((1,), 1)))

    def test_twice_and_to_spare(self):
        chance = Chance(41)
        for dim in range(1, 5):
            corners = [((0,) * dim, 1)] + [(one, 1) for one in units(dim, 3)]
            corners += corners[1:] + [(tuple(5 * n for n in tops), 5) for tops, bottom in corners] + [((1,) * dim, 2)]
            for rays in ([], [unit(dim, 0), unit(dim, 0, 2), unit(dim, 0)]):
                corners, rays = chance.shuffled(corners), chance.shuffled(rays)
                for point in some_points(dim, 20) + [((1,) * dim, dim), ((3,) * dim, dim), ((3,) * dim, 3 * dim - 1)]:
                    body = by_corners(dim, corners, rays)
                    expected = "made" if holds_all(body.rows, point) else "row"
                    self.assertEqual(self.check(dim, corners, rays, point), expected)

    def test_weights_stand_in_the_order_handed_in(self):
        self.assertEqual(woven(1, [((0,), 1), ((2,), 1)], [], ((2,), 1)), ("made", [0, 1], [], 1))
        self.assertEqual(woven(1, [((2,), 1), ((0,), 1)], [], ((2,), 1)), ("made", [1, 0], [], 1))
        corners, rays = [((0, 0), 1)], [(1, 0), (0, 1)]
        self.assertEqual(woven(2, corners, rays, ((2, 3), 1)), ("made", [1], [2, 3], 1))
        self.assertEqual(woven(2, corners, rays[::-1], ((2, 3), 1)), ("made", [1], [3, 2], 1))

    def test_no_corner(self):
        for dim in range(1, 5):
            for point in some_points(dim, 8):
                self.assertEqual(self.check(dim, [], [], point), "row")
                self.assertEqual(self.check(dim, [], [(1,) * dim, unit(dim, 0, -1)], point), "row")
                self.assertEqual(self.check(dim, [], units(dim) + units(dim, -1), point), "row")

    def test_not_in_lowest_terms(self):
        for dim in range(1, 5):
            corners = [((6,) * dim, 3), ((0,) * dim, 8)]
            for point, expected in ((((4,) * dim, 4), "made"), (((8,) * dim, 4), "made"), (((18,) * dim, 8), "row")):
                self.assertEqual(self.check(dim, corners, [], point), expected)
                self.assertEqual(self.check(dim, corners, [(4,) * dim], point), "made")
        self.assertEqual(woven(1, [((6,), 3)], [], ((4,), 2))[0], "made")

    def test_the_point_lies_outside_the_flat(self):
        corners = [((0, 0, 0), 1), ((1, 1, 0), 1), ((0, 1, 0), 1)]
        self.assertEqual(self.check(3, corners, [], ((1, 2, 1), GREAT)), "row")
        self.assertEqual(self.check(3, corners, [], ((1, 2, 0), 3)), "made")
        self.assertEqual(self.check(3, corners, [(0, 0, 5)], ((1, 2, 1), 3)), "made")
        self.assertEqual(self.check(3, corners, [(0, 0, 5)], ((1, 2, -1), 3)), "row")

    def test_kinds(self):
        for name, body in every_kind():
            for point in some_points(body.dim, 15) + body.corners:
                expected = "made" if holds_all(body.rows, point) else "row"
                self.assertEqual(self.check(body.dim, body.corners, body.rays, point), expected, name)

    def test_by_chance(self):
        chance = Chance(42)
        for dim in range(1, 5):
            for great in (1, 3, GREAT):
                for turn in range(25):
                    corners = [(chance.tuple_of(dim, great), chance.between(1, 3)) for _ in range(chance.between(0, 9))]
                    rays = [chance.tuple_of(dim, great) for _ in range(chance.between(0, 3) if turn % 2 else 0)]
                    rays = [ray for ray in rays if any(ray)]
                    body = by_corners(dim, corners, rays)
                    for _ in range(4):
                        point = chance.tuple_of(dim, great), chance.between(1, 5)
                        expected = "made" if holds_all(body.rows, point) else "row"
                        self.assertEqual(self.check(dim, corners, rays, point), expected)

    def test_many_corners_in_one_flat(self):
        # All that meet in one side have their say in the order in which a base is changed.
        corners = [((x, y, 0), 1) for x in range(-3, 4) for y in range(-3, 4)] + [((0, 0, 1), 1)]
        for point, expected in ((((1, 1, 1), 3), "made"), (((3, 3, 0), 1), "made"), (((3, 3, 1), 2), "made"),
                                (((4, 3, 0), 1), "row"), (((3, 3, 1), 1), "row"), (((0, 0, -1), GREAT), "row")):
            self.assertEqual(self.check(3, corners, [], point), expected)

    def test_the_same_once_more(self):
        asked = [(2, [((0, 0), 1), ((4, 0), 1), ((0, 4), 1)], [(1, 1)], point) for point in (((1, 1), 1), ((-1, 0), 1))]
        first = [woven(*handed) for handed in asked]
        kept_first = [repr(found) for found in first]
        first[0][1].append("more")
        first[0][2].append("more")
        woven(1, [], [], ((1,), 1))
        self.assertEqual([repr(woven(*handed)) for handed in asked], kept_first)


class Within(unittest.TestCase):
    def check(self, one, other):
        before = kept(one), kept(other)
        found = within(one, other)
        self.assertIn(found, (True, False))
        self.assertIs(type(found), bool)
        # Each point of one lies in the other where a cut by the other leaves one as it is.
        left = cut(one, other)
        self.assertEqual(found, (left.dim, left.rows, left.corners, left.rays) == kept(one))
        self.assertIs(same(one, other), found and within(other, one))
        self.assertEqual((kept(one), kept(other)), before)
        return found

    def test_in_itself(self):
        for name, body in every_kind():
            self.assertIs(within(body, body), True, name)
            self.assertIs(same(body, body), True, name)

    def test_the_empty_body_and_all_points(self):
        for name, body in every_kind():
            nothing, all_points = empty(body.dim), everything(body.dim)
            self.assertIs(within(nothing, body), True, name)
            self.assertIs(within(body, nothing), body.is_empty(), name)
            self.assertIs(within(body, all_points), True, name)
            self.assertIs(same(body, nothing), body.is_empty(), name)
            self.assertIs(same(nothing, body), body.is_empty(), name)

    def test_one_row_more(self):
        for name, body in every_kind():
            if body.is_empty():
                continue
            for direction in units(body.dim) + units(body.dim, -1):
                # The row leaves some corner out, or what lies along some ray.
                least = min(dot(direction, tops) // bottom for tops, bottom in body.corners)
                less = by_rows(body.dim, body.rows + [(direction, least + 2)])
                self.assertIs(within(less, body), True, name)
                self.assertIs(within(body, less), False, name)
                self.assertIs(same(body, less), False, name)
                self.assertIs(same(less, body), False, name)

    def test_a_row_that_leaves_nothing_out(self):
        for name, body in every_kind():
            for a, b in body.rows:
                more = by_rows(body.dim, body.rows + [(tuple(3 * n for n in a), 3 * b - 1)])
                self.assertIs(same(body, more), True, name)

    def test_boxes(self):
        for dim in range(1, 5):
            small, large = box((0,) * dim, (GREAT,) * dim), box((0,) * dim, (GREAT + 1,) * dim)
            self.assertIs(self.check(small, large), True)
            self.assertIs(self.check(large, small), False)
            self.assertIs(self.check(small, orthant(dim)), True)
            self.assertIs(self.check(orthant(dim), small), False)
            self.assertIs(self.check(simplex(dim), small), True)
            self.assertIs(self.check(one_point((GREAT,) * dim), small), True)
            self.assertIs(self.check(one_point((2 * GREAT + 1,) * dim, 2), small), False)

    def test_rays_alone_lead_out(self):
        one = by_corners(2, [((1, 1), 1)], [(1, 0), (1, GREAT)])
        self.assertIs(self.check(one, orthant(2)), True)
        self.assertIs(self.check(by_corners(2, [((1, 1), 1)], [(GREAT, -1)]), orthant(2)), False)
        self.assertIs(self.check(by_corners(2, [((1, 1), 1)], [(1, 1)]), by_rows(2, [((1, -1), 0)])), True)

    def test_lines_told_in_other_ways(self):
        plane = by_rows(3, [((1, 1, 1), 2), ((-1, -1, -1), -2)])
        for rays in ([(1, -1, 0), (0, 1, -1)], [(1, 0, -1), (5, -2, -3)], [(GREAT, -GREAT, 0), (1, 1, -2)]):
            other = by_corners(3, [((2, 0, 0), 1)], rays + [minus(ray) for ray in rays])
            self.assertIs(same(plane, other), True)
            self.assertIs(same(other, plane), True)
            third = minus(tuple(map(sum, zip(*rays))))
            third = by_corners(3, [((0, -GREAT, GREAT + 2), 1), ((0, 1, 1), 1)], [rays[0], rays[1], third])
            self.assertIs(same(plane, third), True)
            self.assertIs(same(plane, by_corners(3, [((2, 0, 1), 1)], rays + [minus(ray) for ray in rays])), False)
        half = by_rows(2, [((1, 1), 0)])
        self.assertIs(same(half, by_corners(2, [((5, -5), 1)], [(1, -1), (-3, 3), (7, 1)])), True)
        self.assertIs(same(half, by_corners(2, [((5, -5), 1)], [(1, -1), (-3, 3)])), False)

    def test_flat_bodies_told_in_other_ways(self):
        stretch = by_corners(3, [((0, 0, 0), 1), ((2, 2, 4), 1)], [])
        rows = [((1, -1, 0), 0), ((-1, 1, 0), 0), ((2, 0, -1), 0), ((0, -2, 1), 0), ((0, 0, 1), 0), ((-1, -1, 0), -4)]
        self.assertIs(same(stretch, by_rows(3, rows)), True)
        self.assertIs(same(stretch, by_rows(3, rows[:-1])), False)
        self.assertIs(within(stretch, by_rows(3, rows[:-1])), True)
        self.assertIs(same(one_point((1, 1), 2), by_rows(2, [((2, 0), 1), ((0, 2), 1), ((-1, -1), -1)])), True)
        self.assertIs(same(empty(2), by_rows(2, [((2, 0), 1), ((0, 2), 1), ((-2, -2), -1)])), True)

    def test_kinds(self):
        for dim in range(1, 5):
            found = list(kinds(dim).values())
            for one in found:
                for other in found:
                    self.check(one, other)

    def test_by_chance(self):
        chance = Chance(43)
        for dim in range(1, 5):
            for great in (2, GREAT):
                for _ in range(8):
                    one, other = some_body(chance, dim, great, 3), some_body(chance, dim, great, 3)
                    self.check(one, other)
                    self.check(cut(one, other), other)


if __name__ == "__main__":
    unittest.main()
