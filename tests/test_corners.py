"""Call 6, corners."""

import unittest

from tests.helper import CORNERS, ask, begin, cut, last


class Corners(unittest.TestCase):
    def test_at_the_very_beginning(self):
        self.assertEqual(ask(CORNERS), [[4, 0, 1, 0, 1, 1, 1, 0, 1, 1, 1, 1, 1, 0, 1, 1, 1]])

    def test_lowest_terms(self):
        told = last(begin(6, [(0, 0), (3, 4), (2, 5)]), CORNERS)
        self.assertEqual(told, [3, 0, 1, 0, 1, 1, 2, 2, 3, 1, 3, 5, 6])

    def test_below_0(self):
        told = last(begin(6, [(0, 0), (-3, -4), (-2, -5)]), CORNERS)
        self.assertEqual(told, [3, -1, 2, -2, 3, -1, 3, -5, 6, 0, 1, 0, 1])

    def test_0_is_0_and_1(self):
        told = last(begin(5, [(0, 1), (-1, 0), (0, -1), (1, 0)]), CORNERS)
        self.assertEqual(told, [4, -1, 5, 0, 1, 0, 1, -1, 5, 1, 5, 0, 1, 0, 1, 1, 5])

    def test_whole_numbers_have_1_below(self):
        told = last(begin(6, [(12, -12), (72, 0), (6, 18)]), CORNERS)
        self.assertEqual(told, [3, 1, 1, 3, 1, 2, 1, -2, 1, 12, 1, 0, 1])

    def test_behind_a_cut_in_lowest_terms(self):
        told = last(cut(4, 6, 5), CORNERS)
        self.assertEqual(told, [4, 0, 1, 0, 1, 1, 1, 0, 1, 1, 1, 1, 6, 0, 1, 5, 6])

    def test_asked_twice(self):
        told = ask(cut(4, 6, 5), CORNERS, CORNERS)
        self.assertEqual(told[1], told[2])


if __name__ == "__main__":
    unittest.main()
