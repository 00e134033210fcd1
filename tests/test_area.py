"""Call 7, area."""

import unittest

from tests.helper import AREA, UNDO, ask, begin, cut, last, shift, steps


class Area(unittest.TestCase):
    def test_at_the_very_beginning(self):
        self.assertEqual(ask(AREA), [[0, 1, 1]])

    def test_0_then_a_fraction_in_lowest_terms(self):
        for q, places, told in (
            (1, [(0, 0), (3, 0), (0, 3)], [0, 9, 2]), (1, [(0, 0), (4, 0), (0, 3)], [0, 6, 1]),
            (6, [(0, 0), (1, 0), (0, 1)], [0, 1, 72]), (6, [(0, 0), (2, 0), (0, 3)], [0, 1, 12]),
            (5, [(-1, 0), (0, -1), (1, 0), (0, 1)], [0, 2, 25]), (1, [(-12, -12), (12, -12), (12, 12), (-12, 12)], [0, 576, 1]),
            (3, [(1, 1), (2, 1), (1, 2)], [0, 1, 18]),
        ):
            self.assertEqual(ask(begin(q, places), AREA)[1], told)

    def test_whatever_the_order_told(self):
        for places in ([(0, 0), (4, 0), (4, 1)], [(4, 1), (4, 0), (0, 0)], [(4, 0), (0, 0), (4, 1), (3, 0), (2, 0)]):
            self.assertEqual(last(begin(1, places), AREA), [0, 2, 1])

    def test_below_0_too(self):
        self.assertEqual(last(begin(2, [(-3, -3), (-9, -3), (-3, -8)]), AREA), [0, 15, 4])

    def test_its_own_whatever_the_steps(self):
        for first, second in (((2, 0), (0, 2)), ((0, 1), (1, 0)), ((6, 6), (-6, 6)), ((6, 1), (-1, 6))):
            self.assertEqual(ask(steps(first, second), AREA)[1], [0, 1, 1])

    def test_moved_it_stays(self):
        self.assertEqual(ask(begin(6, [(1, 2), (9, 4), (3, 11)]), AREA, shift(-20, 17), AREA)[1::2], [[0, 17, 18]] * 2)

    def test_cut_in_two_both_together(self):
        self.assertEqual(last(cut(1, 1, 1), AREA), [0, 1, 2])
        self.assertEqual(last(cut(4, 6, 5), AREA), [0, 1, 2])
        self.assertEqual(last(cut(3, 0, 1), AREA), [0, 1, 3])
        self.assertEqual(last(cut(-3, 0, -1), AREA), [0, 2, 3])
        self.assertEqual(last(cut(7, 11, 5), cut(-11, 0, -1), AREA), [0, 1152, 9317])

    def test_behind_undo(self):
        self.assertEqual(ask(cut(1, 1, 1), AREA, UNDO, AREA), [[3], [0, 1, 2], [0], [0, 1, 1]])

    def test_asked_it_keeps_nothing(self):
        self.assertEqual(ask(AREA, AREA, UNDO)[2], [-6])


if __name__ == "__main__":
    unittest.main()
