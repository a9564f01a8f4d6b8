"""Points 1, 3 and 20: lowest and rank."""

import unittest

from cornerhouse.whole import lowest, rank
from tests.slow import Chance, slow_lowest, slow_rank

GREAT = 10 ** 12


class Lowest(unittest.TestCase):
    def test_plain(self):
        for numbers, expected in (
            ((6,), (1,)),
            ((-6,), (-1,)),
            ((0,), (0,)),
            ((4, 6), (2, 3)),
            ((-4, 6), (-2, 3)),
            ((-4, -6), (-2, -3)),
            ((3, 5), (3, 5)),
            ((0, 9, 0), (0, 1, 0)),
            ((0, 0, 0, 0, 0, 0), (0, 0, 0, 0, 0, 0)),
            ((12, 0, -18, 30, 6, 600), (2, 0, -3, 5, 1, 100)),
            ((1, 100, 100), (1, 100, 100)),
            ((6, 10, 15), (6, 10, 15)),
        ):
            self.assertEqual(lowest(numbers), expected)

    def test_great_numbers(self):
        self.assertEqual(lowest((GREAT, -3 * GREAT)), (1, -3))
        self.assertEqual(lowest((GREAT, GREAT + 1)), (GREAT, GREAT + 1))
        self.assertEqual(lowest((7 * 10 ** 40, 0, -7 * 10 ** 40 - 7)), (10 ** 40, 0, -(10 ** 40) - 1))

    def test_many(self):
        chance = Chance(1)
        for count in range(1, 7):
            for size in (3, 60, GREAT):
                for times in (1, 12, -10 ** 13):
                    numbers = tuple(times * number for number in chance.tuple_of(count, size))
                    found = lowest(numbers)
                    self.assertIs(type(found), tuple)
                    self.assertEqual(found, slow_lowest(numbers))

    def test_the_same_once_more(self):
        first = lowest((8, -12, 0))
        lowest((5, 10))
        rank([(2, 4), (1, 2)])
        lowest((0, 0))
        self.assertEqual(lowest((8, -12, 0)), first)
        self.assertEqual(first, (2, -3, 0))

    def test_the_list_stays(self):
        numbers = [4, -8, 0]
        self.assertEqual(lowest(numbers), (1, -2, 0))
        self.assertEqual(numbers, [4, -8, 0])


class Rank(unittest.TestCase):
    def test_plain(self):
        for rows, expected in (
            ([], 0),
            ([(0,)], 0),
            ([(5,)], 1),
            ([(5,), (-3,), (0,)], 1),
            ([(0, 0, 0), (0, 0, 0)], 0),
            ([(1, 2), (2, 4)], 1),
            ([(1, 2), (-1, -2)], 1),
            ([(1, 2), (2, 1)], 2),
            ([(1, 2), (2, 1), (5, 7)], 2),
            ([(0, 1, 1), (1, 0, 1), (1, 1, 2)], 2),
            ([(0, 1, 1), (1, 0, 1), (1, 1, 0)], 3),
            ([(0, 0, 1), (0, 1, 0), (1, 0, 0)], 3),
            ([(1, 1, 1, 1, 1, 1), (2, 2, 2, 2, 2, 3), (0, 0, 0, 0, 0, 1)], 2),
        ):
            self.assertEqual(rank(rows), expected, rows)

    def test_great_numbers(self):
        self.assertEqual(rank([(GREAT, GREAT - 1), (GREAT + 1, GREAT)]), 2)
        self.assertEqual(rank([(GREAT, 2 * GREAT), (GREAT - 1, 2 * GREAT - 2)]), 1)

    def test_sums_of_others(self):
        chance = Chance(2)
        for count in range(1, 7):
            for size in (2, 9, GREAT):
                for many in range(1, 5):
                    rows = [chance.tuple_of(count, size) for _ in range(many)]
                    for _ in range(chance.between(0, 3)):
                        one, other = rows[chance.between(0, len(rows) - 1)], rows[chance.between(0, len(rows) - 1)]
                        times = chance.between(-3, 3)
                        rows.append(tuple(a - times * b for a, b in zip(one, other)))
                    rows = chance.shuffled(rows + [(0,) * count])
                    handed = list(rows)
                    found = rank(rows)
                    self.assertIs(type(found), int)
                    self.assertEqual(found, slow_rank(handed), handed)
                    self.assertEqual(rows, handed)


if __name__ == "__main__":
    unittest.main()
