"""Call 2, steps."""

import unittest

from tests.helper import CORNERS, GREATEST, UNDO, ask, steps, steps_lists
from wholepointsdesk.desk import Desk


class Steps(unittest.TestCase):
    def test_the_size_of_the_determinant(self):
        for first, second, size in (
            ((1, 0), (0, 1), 1), ((2, 1), (1, 3), 5), ((6, 0), (0, 6), 36), ((6, 6), (-6, 6), 72), ((3, 4), (1, 2), 2)
        ):
            self.assertEqual(ask(steps(first, second)), [[size]])

    def test_a_determinant_below_0(self):
        for first, second, size in (
            ((0, 1), (1, 0), 1), ((1, 3), (2, 1), 5), ((-6, 6), (6, 6), 72), ((-2, 0), (0, 3), 6)
        ):
            self.assertEqual(ask(steps(first, second)), [[size]])

    def test_not_four_numbers(self):
        for plus, minus in (
            ([], []), ([1] * 3, [0] * 3), ([1] * 5, [0] * 5), ([1] * 4, [0] * 3), ([1] * 3, [0] * 4), ([1] * 4, []),
            ([], [1] * 4), ([1] * 2, [0] * 2), ([1] * 8, [0] * 8), ([GREATEST] * 1024, [0] * 1024),
        ):
            self.assertEqual(ask(steps_lists(plus, minus)), [[-3]])

    def test_a_number_of_6_and_of_7(self):
        for place in range(4):
            for sign in (1, -1):
                numbers = [1, 2, 2, 1]
                numbers[place] = sign * 6
                self.assertGreater(ask(steps(numbers[:2], numbers[2:]))[0][0], 0)
                numbers[place] = sign * 7
                self.assertEqual(ask(steps(numbers[:2], numbers[2:])), [[-1]])
                numbers[place] = sign * GREATEST
                self.assertEqual(ask(steps(numbers[:2], numbers[2:])), [[-1]])

    def test_numbers_are_plus_less_minus(self):
        for added in (6, 1000, GREATEST - 6):
            self.assertEqual(ask(steps((-6, 1), (2, 6), added)), [[38]])
        self.assertEqual(ask(steps_lists([GREATEST, 7, 0, 9], [GREATEST - 1, 7, 0, 8])), [[1]])

    def test_one_in_the_others_line(self):
        for first, second in (
            ((0, 0), (1, 0)), ((1, 0), (0, 0)), ((0, 0), (0, 0)), ((1, 2), (2, 4)), ((1, 2), (-3, -6)),
            ((1, 2), (1, 2)), ((0, 3), (0, -5)), ((4, 0), (6, 0)), ((4, 6), (-2, -3)),
        ):
            self.assertEqual(ask(steps(first, second)), [[-4]])

    def test_of_several_refusals_the_one_told_first(self):
        self.assertEqual(ask(steps_lists([7] * 3, [0] * 3)), [[-3]])
        self.assertEqual(ask(steps_lists([0] * 4, [0] * 5)), [[-3]])
        self.assertEqual(ask(steps((7, 7), (7, 7))), [[-1]])
        self.assertEqual(ask(steps((0, 0), (0, -7))), [[-1]])

    def test_the_polygon_stays(self):
        told = ask(CORNERS, steps((2, 1), (1, 3)), CORNERS)
        self.assertEqual(told[0], told[2])

    def test_each_is_kept_though_it_is_the_same(self):
        self.assertEqual(ask(*[steps((1, 0), (0, 1))] * 3, UNDO), [[1], [1], [1], [2]])

    def test_these_are_the_steps(self):
        desk = Desk()
        self.assertEqual(desk.change_steps([2, 0, 0, 1], [0, 1, 3, 0]), [1])
        self.assertEqual(desk.steps, ((2, -1), (-3, 1)))

    def test_refused_they_stay(self):
        for plus, minus in (([1] * 3, [0] * 3), ([7, 0, 0, 1], [0] * 4), ([1, 2, 2, 4], [0] * 4)):
            desk = Desk()
            desk.change_steps([2, 0, 0, 1], [0, 1, 3, 0])
            self.assertLess(desk.change_steps(plus, minus)[0], 0)
            self.assertEqual(desk.steps, ((2, -1), (-3, 1)))


if __name__ == "__main__":
    unittest.main()
