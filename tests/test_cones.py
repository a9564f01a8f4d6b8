"""Points 1, 3 and 20: cone."""

import unittest

from cornerhouse.cones import cone
from tests.slow import Chance, check_cone, dot, slow_rank

GREAT = 10 ** 12


class Cones(unittest.TestCase):
    def check(self, rows, size):
        handed = list(rows)
        found = cone(rows, size)
        self.assertIs(type(found), tuple)
        lines, rays = found
        self.assertIs(type(lines), list)
        self.assertIs(type(rays), list)
        self.assertEqual(rows, handed)
        check_cone(self, rows, size, lines, rays)
        self.check_words(rows, size, lines, rays)
        return lines, rays

    def check_words(self, rows, size, lines, rays):
        """What point 20 says, word by word, beside the slow way."""
        for ray in rays:
            products = [dot(row, ray) for row in rows]
            self.assertTrue(min(products) >= 0 and max(products) > 0)
            self.assertEqual(slow_rank(lines + [ray]), len(lines) + 1)
        self.assertEqual(len(lines), size - slow_rank(rows))
        for left_out in range(len(rays)):
            # A tuple that parts the one left out from all others shows that it is needed.
            others = rays[:left_out] + rays[left_out + 1:]
            makers = others + lines + [tuple(-number for number in line) for line in lines]
            parting = cone(makers, size)
            parting = parting[1] + parting[0] + [tuple(-number for number in line) for line in parting[0]]
            self.assertTrue(any(dot(row, rays[left_out]) < 0 for row in parting))
            self.assertTrue(all(dot(row, maker) >= 0 for row in parting for maker in makers))

    def test_no_rows(self):
        for size in range(1, 7):
            lines, rays = self.check([], size)
            self.assertEqual((len(lines), rays), (size, []))

    def test_rows_of_noughts(self):
        for size in range(1, 7):
            lines, rays = self.check([(0,) * size] * 3, size)
            self.assertEqual((len(lines), rays), (size, []))

    def test_one_number(self):
        self.assertEqual(self.check([(5,)], 1), ([], [(1,)]))
        self.assertEqual(self.check([(-5,), (-1,)], 1), ([], [(-1,)]))
        self.assertEqual(self.check([(5,), (-1,)], 1), ([], []))

    def test_known_rays(self):
        lines, rays = self.check([(1, 0), (1, 0), (0, 2), (1, 1), (0, 0)], 2)
        self.assertEqual((lines, sorted(rays)), ([], [(0, 1), (1, 0)]))
        lines, rays = self.check([(1, 0, 1), (-1, 0, 1), (0, 1, 1), (0, -1, 1)], 3)
        self.assertEqual((lines, sorted(rays)), ([], [(-1, -1, 1), (-1, 1, 1), (1, -1, 1), (1, 1, 1)]))
        lines, rays = self.check([(2, -6), (-3, 9)], 2)
        self.assertIn(lines, ([(3, 1)], [(-3, -1)]))
        self.assertEqual(rays, [])

    def test_a_row_alone(self):
        for size in range(1, 7):
            row = tuple(range(-2, size - 2))
            lines, rays = self.check([row], size)
            self.assertEqual((len(lines), len(rays)), (size - 1, 1))

    def test_a_row_with_its_opposite(self):
        for size in range(1, 7):
            row = tuple(range(1, size + 1))
            lines, rays = self.check([row, tuple(-number for number in row)], size)
            self.assertEqual((len(lines), rays), (size - 1, []))

    def test_only_noughts_left(self):
        for size in range(1, 5):
            units = [tuple(int(k == place) for k in range(size)) for place in range(size)]
            self.assertEqual(self.check(units + [(-1,) * size], size), ([], []))

    def test_many(self):
        chance = Chance(3)
        for size in range(1, 7):
            most = 12 if size < 5 else 6
            for great in (1, 2, 9, GREAT):
                for turn in range(12):
                    self.check(self.some_rows(chance, size, chance.between(0, most), great, turn), size)

    def some_rows(self, chance, size, many, great, turn):
        rows = []
        while len(rows) < many:
            row = chance.tuple_of(size, great)
            # Every second time, all rows hold one tuple, so that the cone does not shrink to nothing.
            if turn % 2 and sum(row) < 0:
                row = tuple(-number for number in row)
            rows.append(row)
            if turn % 4 == 2 and len(rows) < many:
                rows.append(chance.shuffled([row, (0,) * size, tuple(-3 * number for number in row)])[0])
        return chance.shuffled(rows)

    def test_the_same_once_more(self):
        rows = [(1, 2, 3), (-1, 5, 0), (0, -1, 4)]
        first = cone(rows, 3)
        cone([(1, 1)], 2)
        cone([(-1, 2, 3)], 3)
        self.assertEqual(cone(rows, 3), first)

    def test_told_lists_can_be_changed(self):
        first = cone([(1, 2)], 2)
        kept = (list(first[0]), list(first[1]))
        first[0].append("more")
        first[1].append("more")
        self.assertEqual(cone([(1, 2)], 2), kept)


if __name__ == "__main__":
    unittest.main()
