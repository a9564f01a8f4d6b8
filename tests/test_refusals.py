"""Points 1, 2 and 7: what by_rows, by_corners and holds refuse."""

import unittest

from cornerhouse.bodies import by_corners, by_rows
from cornerhouse.errors import BadBody

NO_NUMBERS = (True, False, 1.0, "1", None, (1,), [1], b"1")
NO_TUPLES = (None, 1, True, "ab", [], {}, {1, 2}, b"ab")
NO_LISTS = (None, 1, True, (), (((1, 0), 0),), {}, "", set())

# Each is of two dimensions but for one thing.
NO_PAIRS = (
    (),
    ((1, 0),),
    ((1, 0), 1, 1),
    (1, 0, 1),
    [(1, 0), 1],
    ([1, 0], 1),
    ((1,), 1),
    ((1, 0, 0), 1),
    ((), 1),
    (1, (1, 0)),
    ((1, 0), (1,)),
    ((True, 0), 1),
    ((1, False), 1),
    ((1, 0), True),
    ((1.0, 0), 1),
    ((1, 0), 1.0),
    (("1", 0), 1),
    ((1, None), 1),
    ((1, 0), None),
    ((1, (0,)), 1),
    ("ab", 1),
    (None, 1),
)
NO_RAYS = (
    (0, 0),
    (),
    (1,),
    (1, 0, 0),
    [1, 0],
    (True, 0),
    (0, True),
    (False, 1),
    (1.0, 0),
    ("1", 0),
    (None, 1),
    ((1, 0), 1),
    (1, (0,)),
)
POINT = ((0, 0), 1)
RAY = (1, 0)
ROW = ((1, 0), 0)


class Refusals(unittest.TestCase):
    def refused(self, call, *handed):
        with self.assertRaises(BadBody) as caught:
            call(*handed)
        self.assertIs(type(caught.exception), BadBody, handed)

    def test_dim(self):
        for dim in (0, 5, -1, 10 ** 12) + NO_NUMBERS:
            self.refused(by_rows, dim, [])
            self.refused(by_corners, dim, [], [])
        for dim in (True, 5, 1.0):
            self.refused(by_rows, dim, [((1,) * 5 if dim == 5 else (1,), 0)])
            self.refused(by_corners, dim, [((1,) * 5 if dim == 5 else (1,), 1)], [])

    def test_no_lists(self):
        for things in NO_LISTS:
            self.refused(by_rows, 2, things)
            self.refused(by_corners, 2, things, [])
            self.refused(by_corners, 2, [POINT], things)
            self.refused(by_corners, 2, [], things)

    def test_rows(self):
        for row in NO_TUPLES + NO_PAIRS:
            self.refused(by_rows, 2, [row])
            self.refused(by_rows, 2, [ROW, ROW, row])
            self.refused(by_rows, 2, [((0, 0), 1), row, ROW])

    def test_points(self):
        for point in NO_TUPLES + NO_PAIRS + (((1, 0), 0), ((1, 0), -1), ((0, 0), 0), ((1, 0), -10 ** 12)):
            self.refused(by_corners, 2, [point], [])
            self.refused(by_corners, 2, [POINT, point], [RAY])
            self.refused(by_corners, 2, [point, POINT], [RAY])

    def test_rays(self):
        for ray in NO_TUPLES + NO_RAYS:
            self.refused(by_corners, 2, [POINT], [ray])
            self.refused(by_corners, 2, [POINT], [RAY, ray])
            self.refused(by_corners, 2, [], [ray, RAY])

    def test_other_counts_in_all_dimensions(self):
        for dim in range(1, 5):
            for count in range(6):
                if count != dim:
                    self.refused(by_rows, dim, [((1,) * count, 0)])
                    self.refused(by_corners, dim, [((1,) * count, 1)], [])
                    self.refused(by_corners, dim, [((1,) * dim, 1)], [(1,) * count])
                    self.refused(by_rows(dim, []).holds, ((1,) * count, 1))

    def test_noughts_alone_are_no_ray(self):
        for dim in range(1, 5):
            self.refused(by_corners, dim, [((1,) * dim, 1)], [(0,) * dim])

    def test_holds(self):
        bodies = by_rows(2, [ROW]), by_rows(2, []), by_rows(2, [((0, 0), 1)]), by_corners(2, [POINT], [RAY])
        for body in bodies:
            for point in NO_TUPLES + NO_PAIRS + (((1, 0), 0), ((1, 0), -1)):
                self.refused(body.holds, point)

    def test_what_is_not_refused(self):
        self.assertFalse(by_rows(2, [((0, 0), 0), ((0, 0), -1), ((0, 0), 0)]).is_empty())
        self.assertFalse(by_corners(4, [((0, 0, 0, 0), 1)], [(0, 0, 0, -1)]).is_empty())
        self.assertTrue(by_rows(1, [((0,), 10 ** 30)]).is_empty())
        self.assertTrue(by_rows(1, []).holds(((-(10 ** 30),), 10 ** 30)))


if __name__ == "__main__":
    unittest.main()
