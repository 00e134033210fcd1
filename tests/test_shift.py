"""Call 4, shift."""

import unittest
from fractions import Fraction

from tests.helper import CORNERS, GREATEST, UNDO, as_answer, ask, begin, cut, last, shift, shift_lists

TRIANGLE = [(0, 0), (3, 0), (0, 3)]


class Shift(unittest.TestCase):
    def test_moves_all_corners(self):
        told = ask(begin(1, TRIANGLE), shift(5, -7), CORNERS)
        self.assertEqual(told[1:], [[0], as_answer([(5, -7), (8, -7), (5, -4)])])

    def test_fractions_stay_fractions(self):
        told = ask(begin(6, [(-3, 0), (2, 1), (4, 9)]), shift(-1, 2), CORNERS)
        corners = [(Fraction(-3, 2), 2), (Fraction(-2, 3), Fraction(13, 6)), (Fraction(-1, 3), Fraction(7, 2))]
        self.assertEqual(told[2], as_answer(corners))

    def test_by_nothing(self):
        told = ask(CORNERS, shift(0, 0), CORNERS, UNDO)
        self.assertEqual(told[1:], [[0], told[0], [0]])

    def test_there_and_back(self):
        told = ask(cut(3, 5, 4), CORNERS, shift(11, -20), shift(-20, 7), shift(9, 13), CORNERS)
        self.assertEqual(told[5], told[1])

    def test_cut_behind_it(self):
        told = last(shift(-3, 2), cut(1, 1, 0), CORNERS)
        self.assertEqual(told, as_answer([(-3, 2), (-2, 2), (-3, 3)]))

    def test_not_two_numbers(self):
        for plus, minus in (
            ([], []), ([1], [0]), ([1] * 3, [0] * 3), ([1] * 2, [0]), ([1], [0] * 2), ([], [0] * 2), ([1] * 2, []),
            ([1] * 4, [0] * 4), ([0] * 1024, [0] * 1024),
        ):
            self.assertEqual(ask(shift_lists(plus, minus)), [[-3]])

    def test_a_number_of_20_and_of_21(self):
        for sign in (1, -1):
            self.assertEqual(ask(shift(20 * sign, 0), shift(0, 20 * sign)), [[0], [0]])
            for far in (21, GREATEST):
                self.assertEqual(ask(shift(far * sign, 0), shift(0, far * sign)), [[-1], [-1]])

    def test_numbers_are_plus_less_minus(self):
        for added in (20, 21, GREATEST - 20):
            told = last(begin(1, TRIANGLE), shift(-20, 13, added), CORNERS)
            self.assertEqual(told, as_answer([(-20, 13), (-17, 13), (-20, 16)]))

    def test_a_corner_at_100_and_beyond(self):
        # Of each the place that comes first to 100, below 0 too; behind four times 20 it's 92.
        for places, x, y in (
            ([(12, 0), (0, 0), (0, 1)], 1, 0), ([(0, 12), (0, 0), (1, 0)], 0, 1),
            ([(-12, 0), (0, 0), (0, 1)], -1, 0), ([(0, -12), (0, 0), (1, 0)], 0, -1),
        ):
            line = [begin(1, places)] + [shift(20 * x, 20 * y)] * 4
            self.assertEqual(ask(*line, shift(8 * x, 8 * y))[1:], [[0]] * 5)
            self.assertEqual(ask(*line, shift(8 * x, 8 * y), shift(x, y))[1:], [[0]] * 5 + [[-1]])
            self.assertEqual(ask(*line, shift(9 * x, 9 * y))[1:], [[0]] * 4 + [[-1]])
            self.assertEqual(ask(*line, shift(20 * x, 20 * y))[1:], [[0]] * 4 + [[-1]])

    def test_a_corner_beyond_100_by_a_sixth(self):
        for x, y in ((1, 0), (0, 1), (-1, 0), (0, -1)):
            line = [begin(6, [(x, y), (3 * x + y, 3 * y + x), (67 * x, 67 * y)])] + [shift(20 * x, 20 * y)] * 4
            # The farthest corner is at 91 and a sixth then.
            self.assertEqual(ask(*line, shift(8 * x, 8 * y))[5], [0])
            self.assertEqual(ask(*line, shift(9 * x, 9 * y))[5], [-1])

    def test_what_was_cut_off_may_lie_beyond(self):
        line = [begin(1, [(0, 0), (12, 0), (0, 12)]), cut(1, 0, 2)] + [shift(20, 0)] * 4
        self.assertEqual(ask(*line, shift(18, 0))[6], [0])
        self.assertEqual(ask(*line, shift(19, 0))[6], [-1])

    def test_of_several_refusals_the_one_told_first(self):
        self.assertEqual(ask(shift_lists([21] * 3, [0] * 3)), [[-3]])
        self.assertEqual(ask(shift_lists([GREATEST], [])), [[-3]])

    def test_refused_all_is_as_it_was(self):
        before = [begin(1, TRIANGLE)] + [shift(20, 0)] * 4
        was = last(*before, CORNERS)
        for refused, number in ((shift_lists([1], [0]), -3), (shift(0, 21), -1), (shift(18, 0), -1)):
            told = ask(*before, refused, CORNERS, *[UNDO] * 5)
            self.assertEqual(told[5:], [[number], was, [3], [2], [1], [0], [-6]])


if __name__ == "__main__":
    unittest.main()
