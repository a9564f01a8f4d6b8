"""Points 1, 3, 17, 18 and 19: dimension, faces, inner."""

import unittest
from itertools import combinations
from math import comb

from cornerhouse.bodies import by_corners, by_rows
from cornerhouse.faces import dimension, faces, inner
from tests.samples import (
    GREAT, box, check_told_point, empty, every_kind, everything, kept, kinds, minus, one_point, orthant, simplex,
    some_body, unit, units,
)
from tests.slow import Chance, dot, flat_makers, flat_rows, paired, slow_rank


def slow_dimension(corners, rays):
    return slow_rank(flat_makers(corners, rays)) - 1


def at_bound(row, numbers):
    return dot(row, numbers) == 0


def slow_faces(body):
    """What each choice of sides has in common, one for all that tell the same."""
    rows, makers = flat_rows(body.rows), flat_makers(body.corners, body.rays)
    many = len(body.corners)
    found = set()
    for count in range(len(rows) + 1):
        for chosen in combinations(rows, count):
            held = [k for k, maker in enumerate(makers) if all(at_bound(row, maker) for row in chosen)]
            corners = tuple(k for k in held if k < many)
            rays = tuple(k - many for k in held if k >= many)
            if corners:
                size = slow_dimension([body.corners[k] for k in corners], [body.rays[k] for k in rays])
                found.add((size, corners, rays))
    return sorted(found)


def counts(body):
    """How many faces there are of each dimension."""
    found = [0] * (body.dim + 1)
    for size, corners, rays in faces(body):
        found[size] += 1
    return found


def pyramid_of_five():
    corners = [((2, 0, 0), 1), ((0, 2, 0), 1), ((-2, 1, 0), 1), ((-2, -1, 0), 1), ((1, -2, 0), 1), ((0, 0, 3), 1)]
    return by_corners(3, corners, [])


class Dimension(unittest.TestCase):
    def test_kinds(self):
        for dim in range(1, 5):
            for name, expected in (
                ("box", dim), ("box.great", dim), ("simplex.great", dim), ("orthant", dim), ("half", dim),
                ("band", dim), ("line", 1), ("all", dim), ("flat.rows", dim - 1), ("flat.stretch", 1),
                ("flat.ray", 1), ("point", 0), ("point.rows", 0), ("empty", -1), ("empty.rows", -1),
                ("empty.rays", -1),
            ):
                self.assertEqual(dimension(kinds(dim)[name]), expected, (name, dim))
            if dim > 1:
                self.assertEqual(dimension(kinds(dim)["flat.square"]), 2)
                self.assertEqual(dimension(kinds(dim)["flat.line"]), dim - 1)

    def test_a_number(self):
        for name, body in every_kind():
            before = kept(body)
            found = dimension(body)
            self.assertIs(type(found), int)
            self.assertEqual(found, slow_dimension(body.corners, body.rays), name)
            self.assertEqual(kept(body), before)

    def test_nearly_flat(self):
        corners = [((0, 0), 1), ((GREAT, GREAT), 1), ((GREAT + 1, GREAT + 1), 1)]
        self.assertEqual(dimension(by_corners(2, corners, [])), 1)
        self.assertEqual(dimension(by_corners(2, corners + [((1, 1), GREAT)], [])), 1)
        self.assertEqual(dimension(by_corners(2, corners + [((GREAT, GREAT - 1), 1)], [])), 2)
        self.assertEqual(dimension(by_corners(3, [((1, 1, 1), 2)], [(1, 2, 3), (2, 4, 7), (3, 6, 10)])), 2)


class Faces(unittest.TestCase):
    def check(self, body):
        before = kept(body)
        found = faces(body)
        self.assertEqual(kept(body), before)
        self.check_form(body, found)
        if len(body.rows) < 11:
            self.assertEqual(found, slow_faces(body))
        self.check_common(found)
        self.check_sum(body, found)
        return found

    def check_form(self, body, found):
        self.assertIs(type(found), list)
        self.assertEqual(found, sorted(set(found)))
        for face in found:
            self.assertIs(type(face), tuple)
            size, corners, rays = face
            self.assertIs(type(size), int)
            self.assertEqual(size, slow_dimension([body.corners[k] for k in corners], [body.rays[k] for k in rays]))
            self.assertTrue(corners)
            for places in (corners, rays):
                self.assertIs(type(places), tuple)
                self.assertTrue(all(type(place) is int for place in places))
                self.assertEqual(list(places), sorted(set(places)))
        whole = dimension(body), tuple(range(len(body.corners))), tuple(range(len(body.rays)))
        self.assertEqual(whole in found, bool(body.corners))

    def check_common(self, found):
        told = {(corners, rays) for size, corners, rays in found}
        for one, other in combinations(found[:60], 2):
            corners = tuple(k for k in one[1] if k in other[1])
            rays = tuple(k for k in one[2] if k in other[2])
            self.assertTrue(not corners or (corners, rays) in told)

    def check_sum(self, body, found):
        """Point 18."""
        if body.is_empty():
            self.assertEqual(found, [])
            return
        lines, others = paired(body.rays)
        expected = 0 if others else (-1) ** slow_rank(lines)
        self.assertEqual(sum(1 if size % 2 == 0 else -1 for size, corners, rays in found), expected)

    def test_kinds(self):
        for name, body in every_kind():
            with self.subTest(name):
                self.check(body)

    def test_boxes(self):
        for dim in range(1, 5):
            for body in (box((0,) * dim, (1,) * dim), box((-GREAT,) * dim, (GREAT,) * dim)):
                self.check(body)
                self.assertEqual(counts(body), [comb(dim, k) * 2 ** (dim - k) for k in range(dim + 1)])

    def test_simplexes_and_crossed_ends(self):
        for dim in range(1, 5):
            self.check(simplex(dim, GREAT))
            self.assertEqual(counts(simplex(dim)), [comb(dim + 1, k + 1) for k in range(dim + 1)])
            crossed = by_corners(dim, [(one, 1) for one in units(dim) + units(dim, -1)], [])
            self.check(crossed)
            self.assertEqual(counts(crossed)[:dim], [comb(dim, k + 1) * 2 ** (k + 1) for k in range(dim)])

    def test_orthants(self):
        for dim in range(1, 5):
            self.check(orthant(dim))
            self.assertEqual(counts(orthant(dim)), [comb(dim, k) for k in range(dim + 1)])

    def test_a_stretch(self):
        self.assertEqual(self.check(box((3,), (5,))), [(0, (0,), ()), (0, (1,), ()), (1, (0, 1), ())])

    def test_a_wedge(self):
        body = by_corners(2, [((0, 0), 1)], [(1, 0), (0, 1)])
        self.assertEqual(self.check(body), [(0, (0,), ()), (1, (0,), (0,)), (1, (0,), (1,)), (2, (0,), (0, 1))])

    def test_lines(self):
        half = by_rows(2, [((0, 1), 0)])
        at = tuple(k for k, ray in enumerate(half.rays) if ray[1] == 0)
        self.assertEqual(self.check(half), [(1, (0,), at), (2, (0,), (0, 1, 2))])
        band = by_rows(2, [((0, 1), 0), ((0, -1), -1)])
        self.assertEqual(self.check(band), [(1, (0,), (0, 1)), (1, (1,), (0, 1)), (2, (0, 1), (0, 1))])
        for dim in range(1, 5):
            self.assertEqual(self.check(everything(dim)), [(dim, (0,), tuple(range(2 * dim)))])

    def test_flat_and_one_point_and_empty(self):
        for dim in range(1, 5):
            self.assertEqual(self.check(one_point((GREAT, 2, 3, 4)[:dim], 5)), [(0, (0,), ())])
            self.assertEqual(self.check(empty(dim)), [])
        square = by_corners(3, [((x, y, x + y), 1) for x in (0, 1) for y in (0, 1)], [])
        self.assertEqual(self.check(square), [
            (0, (0,), ()), (0, (1,), ()), (0, (2,), ()), (0, (3,), ()),
            (1, (0, 1), ()), (1, (0, 2), ()), (1, (1, 3), ()), (1, (2, 3), ()), (2, (0, 1, 2, 3), ()),
        ])

    def test_sides_that_meet_in_more_than_three(self):
        self.check(pyramid_of_five())
        self.assertEqual(counts(pyramid_of_five()), [6, 10, 6, 1])

    def test_on_a_curve(self):
        # Each two of the corners have an edge between them.
        body = by_corners(4, [((n, n ** 2, n ** 3, n ** 4), 1) for n in range(7)], [])
        self.check(body)
        self.assertEqual(counts(body), [7, 21, 28, 14, 1])

    def test_sides_without_a_point_in_common(self):
        body = by_rows(2, [((1, 0), 0), ((-1, 0), -1), ((0, 1), 0)])
        self.assertEqual(counts(body), [2, 3, 1])
        self.check(body)

    def test_by_chance(self):
        chance = Chance(51)
        for dim in range(1, 5):
            for great in (1, 3, GREAT):
                for _ in range(12):
                    self.check(some_body(chance, dim, great, 3))

    def test_the_list_is_new(self):
        body = box((0, 0), (1, 1))
        first = faces(body)
        first.append("more")
        self.assertEqual(len(faces(body)), 9)


class Inner(unittest.TestCase):
    def check(self, body):
        before = kept(body)
        point = inner(body)
        self.assertEqual(kept(body), before)
        if body.is_empty():
            self.assertIsNone(point)
            return
        check_told_point(self, point, body.dim)
        self.assertIs(body.holds(point), True)
        makers = flat_makers(body.corners, body.rays)
        for row in flat_rows(body.rows):
            if not all(at_bound(row, maker) for maker in makers):
                self.assertGreater(dot(row, (*point[0], point[1])), 0)

    def test_kinds(self):
        for name, body in every_kind():
            with self.subTest(name):
                self.check(body)

    def test_one_point(self):
        self.assertEqual(inner(one_point((2, 4), 6)), ((1, 2), 3))
        self.assertEqual(inner(one_point((0, 0, 0))), ((0, 0, 0), 1))

    def test_rays_lead_away_from_the_bounds(self):
        for dim in range(1, 5):
            tops, bottom = inner(orthant(dim))
            self.assertTrue(all(top > 0 for top in tops))
            self.check(by_corners(dim, [((1,) * dim, GREAT)], [unit(dim, 0), minus(unit(dim, 0)), (1,) * dim]))

    def test_by_chance(self):
        chance = Chance(52)
        for dim in range(1, 5):
            for great in (1, 3, GREAT):
                for _ in range(20):
                    self.check(some_body(chance, dim, great, 4))


if __name__ == "__main__":
    unittest.main()
