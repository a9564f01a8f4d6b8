"""Points 1, 3, 14 and 15: priced and parted. Each answer shows itself, so the tests reckon what it shows."""

import unittest
from fractions import Fraction

from cornerhouse.bodies import by_corners, by_rows
from cornerhouse.pricing import parted, priced
from tests.samples import (
    GREAT, box, box_rows, check_pair, check_told_point, check_weights, empty, every_kind, everything, fractions,
    holds_all, holds_row, kept, kinds, minus, one_point, orthant, simplex, slow_is_empty, some_body, unit, weighted,
)
from tests.slow import Chance, dot, slow_lowest


class Priced(unittest.TestCase):
    def check(self, dim, rows, direction):
        """The answer, with all that point 14 says of it reckoned."""
        handed = list(rows)
        found = priced(dim, rows, direction)
        self.assertEqual(rows, handed)
        self.assertIs(type(found), tuple)
        if found[0] == "empty":
            self.check_empty(dim, rows, *found[1:])
        elif found[0] == "none":
            self.check_none(dim, rows, direction, *found[1:])
        else:
            self.assertEqual(found[0], "least")
            self.check_least(dim, rows, direction, *found[1:])
        return found

    def sums(self, dim, rows, weights):
        check_weights(self, weights, len(rows))
        return weighted(weights, [a for a, b in rows], dim), sum(weight * b for weight, (a, b) in zip(weights, rows))

    def check_empty(self, dim, rows, weights):
        a, b = self.sums(dim, rows, weights)
        self.assertEqual(a, (0,) * dim)
        self.assertGreater(b, 0)

    def check_none(self, dim, rows, direction, corner, ray):
        check_told_point(self, corner, dim)
        self.assertTrue(holds_all(rows, corner))
        self.assertIs(type(ray), tuple)
        self.assertEqual((len(ray), slow_lowest(ray)), (dim, ray))
        self.assertTrue(all(dot(a, ray) >= 0 for a, b in rows))
        self.assertLess(dot(direction, ray), 0)

    def check_least(self, dim, rows, direction, corner, weights, scale):
        check_told_point(self, corner, dim)
        self.assertTrue(holds_all(rows, corner))
        self.assertIs(type(scale), int)
        self.assertGreaterEqual(scale, 1)
        a, b = self.sums(dim, rows, weights)
        self.assertEqual(a, tuple(scale * number for number in direction))
        self.assertEqual(b, scale * Fraction(dot(direction, corner[0]), corner[1]))


class PricedExamples(Priced):
    def test_least(self):
        rows = [((1, 0), 0), ((0, 1), 0), ((-1, -2), -4)]
        self.assertEqual(self.check(2, rows, (0, -1)), ("least", ((0, 2), 1), [1, 0, 1], 2))
        self.assertEqual(self.check(2, rows, (-1, 0)), ("least", ((4, 0), 1), [0, 2, 1], 1))
        self.assertEqual(self.check(2, rows, (3, 5)), ("least", ((0, 0), 1), [3, 5, 0], 1))

    def test_fractions(self):
        self.assertEqual(self.check(1, [((3,), 2), ((-5,), -4)], (1,))[1], ((2,), 3))
        self.assertEqual(self.check(1, [((3,), 2), ((-5,), -4)], (-7,))[1], ((4,), 5))
        self.assertEqual(self.check(2, [((4, 0), 6), ((0, 6), 3)], (2, 2))[1], ((3, 1), 2))

    def test_none(self):
        self.assertEqual(self.check(1, [((1,), 0)], (-1,)), ("none", ((0,), 1), (1,)))
        self.assertEqual(self.check(2, [((1, 0), 5), ((0, 2), 1)], (0, -3))[2], (0, 1))
        self.assertEqual(self.check(2, [((1, -1), 0), ((-1, 1), 0)], (-1, -1))[2], (1, 1))

    def test_a_direction_across_the_rays(self):
        # One ray goes up and one down along the direction: one is enough for nothing to be least.
        self.assertEqual(self.check(2, [((0, 1), 0)], (1, 0))[2], (-1, 0))
        self.assertEqual(self.check(2, [((1, 1), 0), ((-1, 1), 0)], (1, 0))[0], "none")
        self.assertEqual(self.check(2, [((1, 1), 0), ((-1, 1), 0)], (1, 1))[0], "least")
        self.assertEqual(self.check(2, [((1, 1), 0), ((-1, 1), 0)], (2, 1))[0], "none")

    def test_empty(self):
        self.assertEqual(self.check(1, [((1,), 1), ((-1,), 0)], (1,)), ("empty", [1, 1]))
        self.assertEqual(self.check(2, [((1, 0), 0), ((0, 2), 0), ((-1, -1), 1)], (0, 0))[0], "empty")
        self.assertEqual(self.check(2, [((GREAT, 0), 1), ((-1, 0), 0), ((0, 1), 0)], (0, -1))[0], "empty")

    def test_a_row_of_noughts(self):
        for dim in range(1, 5):
            noughts = (0,) * dim
            for b in (1, 5, GREAT):
                among = [(noughts, -b), (noughts, b), (noughts, 0)]
                for rows in ([(noughts, b)], [((1,) * dim, 0), (noughts, b)], among):
                    self.assertEqual(self.check(dim, rows, (1,) * dim)[0], "empty")
            self.assertEqual(self.check(dim, [(noughts, 0), (noughts, -3)], noughts)[0], "least")
            self.assertEqual(self.check(dim, [(noughts, 0), (noughts, -3)], (1,) * dim)[0], "none")
            rows = [(noughts, -1), ((1,) * dim, 2), (noughts, 0)]
            self.assertEqual(self.check(dim, rows, (3,) * dim)[0], "least")

    def test_no_rows(self):
        for dim in range(1, 5):
            found = self.check(dim, [], (0,) * dim)
            self.assertEqual((found[0], found[2]), ("least", []))
            for axis in range(dim):
                for sign in (1, -1):
                    found = self.check(dim, [], unit(dim, axis, sign))
                    self.assertEqual(found[0], "none")

    def test_noughts_as_the_direction(self):
        for name, body in every_kind():
            found = self.check(body.dim, body.rows, (0,) * body.dim)
            self.assertEqual(found[0], "empty" if body.is_empty() else "least", name)

    def test_boxes(self):
        for dim in range(1, 5):
            lows, highs = (-GREAT, 2, 0, -1)[:dim], (GREAT, 5, 1, 7)[:dim]
            rows = box_rows(lows, highs)
            for direction in ((1,) * dim, (-1,) * dim, (2, -3, 5, -GREAT)[:dim], unit(dim, dim - 1)):
                found = self.check(dim, rows, direction)
                least = sum(min(low * number, high * number) for low, high, number in zip(lows, highs, direction))
                self.assertEqual(dot(direction, fractions(found[1])), least)

    def test_rows_twice_and_looser_rows(self):
        chance = Chance(31)
        for dim in range(1, 5):
            rows = box_rows((0,) * dim, (3,) * dim)
            more = rows + rows + [(a, b - 2) for a, b in rows] + [(tuple(2 * n for n in a), 2 * b) for a, b in rows]
            more += [((0,) * dim, 0), ((1,) * dim, -GREAT)]
            for _ in range(4):
                handed = chance.shuffled(more)
                direction = chance.tuple_of(dim, 3)
                found = self.check(dim, handed, direction)
                self.assertEqual(found[0], "least")
                self.assertEqual(dot(direction, found[1][0]), sum(min(0, 3 * number) for number in direction))

    def test_weights_stand_in_the_order_of_the_rows(self):
        rows = [((-1,), -9), ((0,), 0), ((1,), 1), ((1,), 0)]
        self.assertEqual(self.check(1, rows, (1,)), ("least", ((1,), 1), [0, 0, 1, 0], 1))
        self.assertEqual(self.check(1, rows[::-1], (1,)), ("least", ((1,), 1), [0, 1, 0, 0], 1))
        self.assertEqual(self.check(1, rows[::-1], (-2,))[2], [0, 0, 0, 2])

    def test_a_corner_that_many_rows_meet(self):
        # Eight rows meet in the top, and three of them would do.
        rows = [((x, y, -1), -6) for x in (-2, -1, 0, 1, 2) for y in (-2, -1, 0, 1, 2) if abs(x) + abs(y) == 2]
        rows += [((0, 0, 1), 0)]
        for direction in ((0, 0, -1), (1, 1, -9), (0, 1, -5), (3, -2, -7)):
            self.assertEqual(self.check(3, rows, direction)[1], ((0, 0, 6), 1))

    def test_the_same_once_more(self):
        asked = [
            (2, [((1, 0), 0), ((0, 1), 0), ((-1, -2), -4)], (0, -1)),
            (1, [((1,), 1), ((-1,), 0)], (1,)),
            (3, [], (1, 0, 0)),
        ]
        first = [priced(*handed) for handed in asked]
        for found in first:
            for told in found:
                if isinstance(told, list):
                    told.append("more")
        again = [priced(*handed) for handed in asked]
        self.assertEqual(again, [priced(*handed) for handed in asked[::-1]][::-1])
        self.assertEqual(again[0], ("least", ((0, 2), 1), [1, 0, 1], 2))
        self.assertEqual(again[1], ("empty", [1, 1]))


class PricedMany(Priced):
    def directions(self, chance, body):
        found = [(0,) * body.dim] + [chance.tuple_of(body.dim, great) for great in (1, 3, GREAT)]
        return found + [a for a, b in body.rows[:3]] + [minus(ray) for ray in body.rays[:2]]

    def least(self, body, direction):
        """What is least by the body's corners and rays, None where nothing is."""
        if any(dot(ray, direction) < 0 for ray in body.rays):
            return None
        return min(Fraction(dot(direction, tops), bottom) for tops, bottom in body.corners)

    def check_body(self, chance, body, rows):
        for direction in self.directions(chance, body):
            found = self.check(body.dim, rows, direction)
            if body.is_empty():
                self.assertEqual(found[0], "empty")
                continue
            least = self.least(body, direction)
            self.assertEqual(found[0], "none" if least is None else "least")
            if least is not None:
                self.assertEqual(dot(direction, fractions(found[1])), least)

    def test_kinds(self):
        chance = Chance(32)
        for name, body in every_kind():
            self.check_body(chance, body, body.rows)
            looser = [(a, b - 1) for a, b in body.rows if any(a)] + [((0,) * body.dim, -1)]
            self.check_body(chance, body, chance.shuffled(body.rows + looser + body.rows[:1]))

    def test_by_chance(self):
        chance = Chance(33)
        for dim in range(1, 5):
            for great in (1, 3, GREAT):
                for turn in range(40):
                    rows = []
                    for _ in range(chance.between(1, 3 + 2 * dim)):
                        a = chance.tuple_of(dim, great)
                        b = sum(a) - chance.between(0, 2) * great if turn % 2 else chance.between(-great, great)
                        rows.append((a, b))
                        if turn % 5 == 4:
                            rows.append((minus(a), -b - (turn % 3 == 0)))
                    self.check_body(chance, by_rows(dim, rows), rows)


class Parted(unittest.TestCase):
    def check(self, one, other):
        """The kind of answer, with all that point 15 says of it reckoned, either way round."""
        kinds_found = [self.check_one_way(one, other), self.check_one_way(other, one)]
        self.assertEqual(kinds_found[0], kinds_found[1])
        return kinds_found[0]

    def check_one_way(self, one, other):
        before = kept(one), kept(other)
        found = parted(one, other)
        self.assertEqual((kept(one), kept(other)), before)
        self.assertIs(type(found), tuple)
        kind, shown = found
        if kind == "meet":
            check_told_point(self, shown, one.dim)
            self.assertTrue(holds_all(one.rows + other.rows, shown))
            return kind
        self.assertEqual(kind, "row")
        check_pair(self, shown, one.dim)
        a, b = shown
        self.assertTrue(all(holds_row(shown, corner) for corner in one.corners))
        self.assertTrue(all(dot(a, ray) >= 0 for ray in one.rays if one.corners))
        self.assertFalse(any(holds_row(shown, corner) for corner in other.corners))
        self.assertTrue(all(dot(a, ray) <= 0 for ray in other.rays if other.corners))
        return kind

    def test_meet(self):
        for dim in range(1, 5):
            self.assertEqual(self.check(box((0,) * dim, (2,) * dim), box((1,) * dim, (GREAT,) * dim)), "meet")
            self.assertEqual(self.check(everything(dim), everything(dim)), "meet")
            self.assertEqual(self.check(orthant(dim), simplex(dim)), "meet")

    def test_touch_in_one_point(self):
        for dim in range(1, 5):
            one, other = box((0,) * dim, (1,) * dim), box((1,) * dim, (2,) * dim)
            self.assertEqual(self.check(one, other), "meet")
            self.assertEqual(parted(one, other), ("meet", ((1,) * dim, 1)))
        one, other = by_corners(2, [((1, 1), 3)], [(-1, 0), (0, -1)]), by_corners(2, [((1, 1), 3)], [(1, 1), (1, 2)])
        self.assertEqual(parted(one, other), ("meet", ((1, 1), 3)))
        self.assertEqual(parted(one_point((2, 4), 6), one_point((1, 2), 3)), ("meet", ((1, 2), 3)))

    def test_apart(self):
        for dim in range(1, 5):
            one = box((0,) * dim, (1,) * dim)
            for low in (2, GREAT):
                self.assertEqual(self.check(one, box((low,) * dim, (low + 1,) * dim)), "row")
            self.assertEqual(self.check(one, one_point((GREAT + 1,) * dim, GREAT)), "row")
            self.assertEqual(self.check(one_point((1,) * dim, GREAT), one_point((1,) * dim, GREAT + 1)), "row")

    def test_with_the_empty_body(self):
        for name, body in every_kind():
            self.assertEqual(self.check(body, empty(body.dim)), "row", name)
        for dim in range(1, 5):
            self.assertEqual(self.check(empty(dim), empty(dim)), "row")
            self.assertEqual(self.check(empty(dim), by_corners(dim, [], [(1,) * dim])), "row")

    def test_rays_and_lines(self):
        # The second is the nearer the further it goes, and never there.
        one = by_rows(2, [((1, 0), 0), ((0, 1), 1)])
        self.assertEqual(self.check(one, by_rows(2, [((0, -1), 0)])), "row")
        line = by_corners(2, [((0, 0), 1)], [(1, 1), (-1, -1)])
        self.assertEqual(self.check(line, by_corners(2, [((0, 1), GREAT)], [(1, 1), (-1, -1)])), "row")
        self.assertEqual(self.check(line, by_corners(2, [((0, 1), GREAT)], [(GREAT, GREAT - 1)])), "meet")
        self.assertEqual(self.check(line, by_corners(2, [((0, 1), GREAT)], [(GREAT, GREAT + 1)])), "row")
        skew = by_corners(3, [((0, 0, 1), 1)], [(0, 1, 0), (0, -1, 0)])
        self.assertEqual(self.check(by_corners(3, [((0, 0, 0), 1)], [(1, 0, 0), (-1, 0, 0)]), skew), "row")
        self.assertEqual(self.check(everything(3), skew), "meet")

    def test_flat_bodies(self):
        for height, expected in ((0, "meet"), (1, "row")):
            one = by_corners(3, [((0, 0, 0), 1), ((3, 0, 0), 1), ((0, 3, 0), 1)], [])
            other = by_corners(3, [((1, 1, height), 1), ((5, 1, height), 1), ((1, 5, height), 1)], [])
            self.assertEqual(self.check(one, other), expected)
        one = by_corners(2, [((0, 0), 1), ((1, 1), 1)], [])
        self.assertEqual(self.check(one, by_corners(2, [((2, 2), 1), ((3, 3), 1)], [])), "row")
        self.assertEqual(self.check(one, by_corners(2, [((0, 1), 1), ((1, 0), 1)], [])), "meet")

    def test_a_body_and_itself(self):
        for name, body in every_kind():
            self.assertEqual(self.check(body, body), "row" if body.is_empty() else "meet", name)

    def test_kinds(self):
        for dim in range(1, 5):
            found = kinds(dim)
            for one in found.values():
                for other in found.values():
                    self.check(one, other)

    def test_by_chance(self):
        chance = Chance(34)
        seen = set()
        for dim in range(1, 5):
            for great in (2, 5, GREAT):
                for _ in range(20):
                    one, other = some_body(chance, dim, great, 3), some_body(chance, dim, great, 3)
                    kind = self.check(one, other)
                    seen.add(kind)
                    if dim < 4:
                        self.assertEqual(kind == "row", slow_is_empty(dim, one.rows + other.rows))
        self.assertEqual(seen, {"meet", "row"})

    def test_what_is_told_is_handed_in_again(self):
        one, other = box((0, 0), (1, 1)), box((3, 0), (4, 1))
        kind, row = parted(one, other)
        self.assertEqual(kind, "row")
        self.assertEqual(parted(by_rows(2, [row]), other)[0], "row")
        self.assertEqual(parted(by_rows(2, [row]), one)[0], "meet")
        kind, corner, ray = priced(2, [row], minus(row[0]))
        self.assertEqual((kind, by_corners(2, [corner], [ray]).is_empty()), ("none", False))
        self.assertEqual(parted(one, other), ("row", row))


if __name__ == "__main__":
    unittest.main()
