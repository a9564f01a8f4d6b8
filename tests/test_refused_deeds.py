"""Point 7: what the functions over bodies, priced and woven refuse, each by just the class that is told."""

import unittest

from cornerhouse.deeds import cut, joined, mapped, shadowed, summed
from cornerhouse.errors import BadBody, NoAxis, Uneven
from cornerhouse.pricing import parted, priced
from cornerhouse.weaving import same, within, woven
from tests.samples import GREAT, box, empty, every_kind, everything, kept, kinds, one_point, units
from tests.test_refusals import NO_LISTS, NO_NUMBERS, NO_PAIRS, NO_RAYS, NO_TUPLES, POINT, RAY, ROW

NO_DIRECTIONS = NO_TUPLES + tuple(ray for ray in NO_RAYS if ray != (0, 0))
NO_AXES = NO_NUMBERS + (1.5, 0.0, (), [], {}, set(), (0, 1), "x")
NO_POINTS = NO_TUPLES + NO_PAIRS + (((1, 0), 0), ((1, 0), -1), ((0, 0), 0))


class Refused(unittest.TestCase):
    def refused(self, error, call, *handed):
        with self.assertRaises(error) as caught:
            call(*handed)
        self.assertIs(type(caught.exception), error, handed)


class TwoBodies(Refused):
    def test_other_numbers_of_dimensions(self):
        for dim in range(1, 5):
            for other in range(1, 5):
                if dim == other:
                    continue
                for one in (box((0,) * dim, (1,) * dim), everything(dim), empty(dim)):
                    for second in (one_point((0,) * other), everything(other), empty(other)):
                        before = kept(one), kept(second)
                        for call in (cut, joined, summed, parted, within, same):
                            self.refused(Uneven, call, one, second)
                        self.assertEqual((kept(one), kept(second)), before)

    def test_the_same_number_is_not_refused(self):
        for dim in range(1, 5):
            for call in (cut, joined, summed, parted, within, same):
                call(empty(dim), everything(dim))


class Axis(Refused):
    def test_no_axis(self):
        for dim in range(2, 5):
            for body in kinds(dim).values():
                for axis in (-1, -dim, dim, dim + 1, GREAT, -GREAT) + NO_AXES:
                    self.refused(NoAxis, shadowed, body, axis)

    def test_one_dimension(self):
        for body in kinds(1).values():
            for axis in (0, 1, -1, True, False, None, "0", 0.0, [0]):
                self.refused(NoAxis, shadowed, body, axis)

    def test_an_axis_is_not_refused(self):
        for dim in range(2, 5):
            for axis in range(dim):
                shadowed(everything(dim), axis)


class Table(Refused):
    def every_body(self, table, shift, error):
        for body in (box((0, 0), (1, 1)), everything(2), empty(2), one_point((1, 1))):
            self.refused(error, mapped, body, table, shift)

    def test_no_list(self):
        for table in (None, 1, True, (), ((1, 0),), {}, "ab", set(), {(1, 0): 1}, b"a"):
            for shift in ((0,), (0, 0), ()):
                self.every_body(table, shift, BadBody)

    def test_no_rows_and_five_rows(self):
        self.every_body([], (), BadBody)
        self.every_body([], (0,), BadBody)
        self.every_body([(1, 0)] * 5, (0,) * 5, BadBody)
        self.every_body([(1, 0)] * 5, (0,) * 4, BadBody)

    def test_rows_of_other_kinds(self):
        for row in (None, 1, True, "ab", [1, 0], {}, {1, 0}, b"ab", (True, 0), (1, False), (1.0, 0), (1, None),
                    ("1", 0), ((1,), 0), (1, [0])):
            self.every_body([row], (0,), BadBody)
            self.every_body([(1, 0), row], (0, 0), BadBody)
            self.every_body([row, (1, 0), (0, 0), (0, 1)], (0, 0, 0, 0), BadBody)

    def test_shifts(self):
        for shift in (None, 0, True, (), (0,), (0, 0, 0), [0, 0], "ab", {}, {0, 1}, b"ab", (True, 0), (0, False),
                      (0.0, 0), (0, None), ("0", 0), ((0,), 0)):
            self.every_body([(1, 0), (0, 1)], shift, BadBody)

    def test_rows_of_other_counts(self):
        for dim in range(1, 5):
            for body in kinds(dim).values():
                for count in (1, 2, 3, 4, 5):
                    if count != dim:
                        self.refused(Uneven, mapped, body, [(1,) * count], (0,))
                        self.refused(Uneven, mapped, body, [(1,) * dim, (0,) * count], (0, 0))
                        self.refused(Uneven, mapped, body, [(0,) * count, (1,) * dim, (1,) * dim], (0, 0, 0))
                self.refused(Uneven, mapped, body, [()], (0,))

    def test_nothing_is_changed(self):
        table = [(1, 0), (1, 0, 0)]
        self.every_body(table, (0, 0), Uneven)
        self.assertEqual(table, [(1, 0), (1, 0, 0)])

    def test_a_table_is_not_refused(self):
        for name, body in every_kind():
            for rows in range(1, 5):
                mapped(body, (units(body.dim) * 4)[:rows], (GREAT,) * rows)


class Priced(Refused):
    def test_dim(self):
        for dim in (0, 5, -1, GREAT) + NO_NUMBERS:
            self.refused(BadBody, priced, dim, [], ())
            self.refused(BadBody, priced, dim, [], (1,))
            self.refused(BadBody, priced, dim, [((1,), 0)], (1,))
        self.refused(BadBody, priced, 5, [((1,) * 5, 0)], (1,) * 5)

    def test_rows(self):
        for rows in NO_LISTS:
            self.refused(BadBody, priced, 2, rows, (1, 0))
        for row in NO_TUPLES + NO_PAIRS:
            self.refused(BadBody, priced, 2, [row], (1, 0))
            self.refused(BadBody, priced, 2, [((0, 0), 1), row, ROW], (0, 0))

    def test_directions(self):
        for direction in NO_DIRECTIONS:
            for rows in ([], [ROW], [((0, 0), 1)]):
                self.refused(BadBody, priced, 2, rows, direction)
        for dim in range(1, 5):
            for count in range(6):
                if count != dim:
                    self.refused(BadBody, priced, dim, [], (0,) * count)

    def test_what_is_not_refused(self):
        self.assertEqual(priced(2, [((0, 0), 0)], (0, 0))[0], "least")


class Woven(Refused):
    def test_dim(self):
        for dim in (0, 5, -1, GREAT) + NO_NUMBERS:
            self.refused(BadBody, woven, dim, [], [], ((), 1))
            self.refused(BadBody, woven, dim, [((1,), 1)], [(1,)], ((1,), 1))
        self.refused(BadBody, woven, 5, [((1,) * 5, 1)], [(1,) * 5], ((1,) * 5, 1))

    def test_no_lists(self):
        for things in NO_LISTS:
            self.refused(BadBody, woven, 2, things, [], POINT)
            self.refused(BadBody, woven, 2, [POINT], things, POINT)
            self.refused(BadBody, woven, 2, [], things, POINT)

    def test_corners(self):
        for point in NO_POINTS:
            self.refused(BadBody, woven, 2, [point], [], POINT)
            self.refused(BadBody, woven, 2, [POINT, point], [RAY], POINT)

    def test_rays(self):
        for ray in NO_TUPLES + NO_RAYS:
            self.refused(BadBody, woven, 2, [POINT], [ray], POINT)
            self.refused(BadBody, woven, 2, [], [RAY, ray], POINT)

    def test_points(self):
        for point in NO_POINTS:
            for corners, rays in (([POINT], [RAY]), ([], []), ([], [RAY]), ([POINT], [])):
                self.refused(BadBody, woven, 2, corners, rays, point)
        for dim in range(1, 5):
            for count in range(6):
                if count != dim:
                    self.refused(BadBody, woven, dim, [], [], ((1,) * count, 1))

    def test_what_is_not_refused(self):
        self.assertEqual(woven(2, [((4, 4), 2)], [(4, 0)], ((6, 6), 3))[0], "made")


if __name__ == "__main__":
    unittest.main()
