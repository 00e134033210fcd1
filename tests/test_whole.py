"""Whole numbers: what the counting of points stands on."""

import random
import unittest

from wholepointsdesk.whole import crosswise, sum_of_floors


class SumOfFloors(unittest.TestCase):
    def same(self, count, slope, start, lower):
        each = [(slope * k + start) // lower for k in range(count)]
        self.assertEqual(sum_of_floors(count, slope, start, lower), sum(each))

    def test_of_none_and_of_one(self):
        for start in (-7, -6, -1, 0, 1, 5, 6, 7):
            self.same(0, 5, start, 6)
            self.same(1, 5, start, 6)

    def test_all_small_ones(self):
        for count in range(6):
            for lower in range(1, 6):
                for slope in range(-7, 8):
                    for start in range(-7, 8):
                        self.same(count, slope, start, lower)

    def test_many(self):
        source = random.Random(22)
        for turn in range(300):
            far = source.choice((10, 1000, 10 ** 6))
            slope, start = source.randint(-far, far), source.randint(-far, far)
            self.same(source.randint(0, 200), slope, start, source.randint(1, far))

    def test_more_than_could_be_gone_through(self):
        many = 10 ** 30
        self.assertEqual(sum_of_floors(many, 1, 0, 1), many * (many - 1) // 2)
        self.assertEqual(sum_of_floors(many, 1, 0, 2), many // 2 * (many // 2 - 1))


class Crosswise(unittest.TestCase):
    def test_the_determinant(self):
        self.assertEqual(crosswise((2, 1), (1, 3)), 5)
        self.assertEqual(crosswise((1, 3), (2, 1)), -5)
        self.assertEqual(crosswise((1, 2), (-3, -6)), 0)


if __name__ == "__main__":
    unittest.main()
