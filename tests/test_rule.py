"""Call 10, rule."""

import unittest
from fractions import Fraction

from tests.helper import RULE, STATE, UNDO, ask, ask_each, begin, count, cut, flat, fractions, inside, last, rule_said, shift
from tests.helper import steps

TRIANGLE = [(0, 0), (1, 0), (0, 1)]


class Answer(unittest.TestCase):
    def test_at_the_very_beginning(self):
        self.assertEqual(ask(RULE), [[1, 1, 1, 2, 1, 1, 1]])

    def test_whole_corners(self):
        self.assertEqual(last(begin(1, TRIANGLE), RULE), [1, 1, 2, 3, 2, 1, 1])
        self.assertEqual(last(begin(1, [(0, 0), (4, 2), (0, 2)]), RULE), [1, 4, 1, 4, 1, 1, 1])

    def test_every_second_point(self):
        told = flat([Fraction(1, 4), 1, 1, Fraction(1, 2), Fraction(1, 4)])
        self.assertEqual(last(steps((2, 0), (0, 2)), RULE), [2] + told)
        self.assertEqual(last(begin(2, [(0, 0), (1, 0), (1, 1), (0, 1)]), RULE), [2] + told)

    def test_points_of_one_colour(self):
        told = flat([Fraction(1, 2), 1, 1, 1, Fraction(1, 2)])
        for first, second in (((1, 1), (1, -1)), ((1, -1), (1, 1)), ((2, 0), (1, 1))):
            self.assertEqual(last(steps(first, second), RULE), [2] + told)

    def test_numbers_below_0(self):
        told = last(begin(3, [(1, 1), (2, 1), (1, 2)]), RULE)
        self.assertEqual(told, [3, 1, 18, 1, 2, 1, 1, 1, 18, -1, 9, 5, 18, 2, 9])
        self.assertEqual([rule_said(told, k) for k in range(10)], [1, 0, 1, 3, 1, 3, 6, 3, 6, 10])

    def test_how_many_numbers(self):
        for q in range(1, 7):
            told = last(begin(q, TRIANGLE), RULE)
            self.assertEqual(told[0], q)
            self.assertEqual(len(told), 3 + 4 * q)
            self.assertEqual(len(fractions(told[1:])), 1 + 2 * q)

    def test_a_is_the_area_by_the_steps(self):
        self.assertEqual(last(steps((6, 1), (0, 6)), RULE)[1:3], [1, 36])
        self.assertEqual(last(steps((0, 6), (6, 1)), RULE)[1:3], [1, 36])
        self.assertEqual(last(begin(6, TRIANGLE), steps((-2, 1), (0, 2)), RULE)[1:3], [1, 288])

    def test_of_0_it_says_1(self):
        for before in ([], [shift(7, 8)], [begin(6, [(1, 1), (2, 5), (4, 4)]), steps((1, 1), (2, 0)), shift(1, 0)]):
            self.assertEqual(last(*before, RULE)[5:7], [1, 1])


class Period(unittest.TestCase):
    def test_of_the_corners_told_by_the_steps(self):
        for before, period in (
            ([steps((6, 0), (0, 1))], 6), ([steps((6, 1), (1, 6))], 35), ([steps((6, 0), (0, 6))], 6),
            ([begin(1, [(0, 0), (12, 12), (-12, 12)]), steps((6, 6), (-6, 6))], 1),
            ([begin(1, [(0, 0), (12, 0), (0, 12)]), steps((6, 6), (-6, 6))], 1),
            ([begin(1, [(0, 0), (6, 0), (0, 12)]), steps((6, 6), (-6, 6))], 2),
            ([begin(2, [(0, 0), (4, 0), (0, 4)])], 1), ([begin(2, [(0, 0), (1, 0), (0, 1)]), steps((3, 0), (0, 1))], 6),
            ([cut(5, 7, 4)], 35), ([steps((4, 0), (0, 1)), cut(9, 0, 5)], 36), ([cut(5, 7, 4), shift(3, -8)], 35),
        ):
            self.assertEqual(last(*before, RULE)[0], period)

    def test_moved_by_the_way_to_a_point_not_led_to(self):
        even = begin(1, [(0, 0), (2, 0), (0, 2)])
        self.assertEqual(ask(even, steps((2, 0), (0, 2)), RULE, shift(1, 0), RULE, shift(-1, 0), RULE)[2][0], 1)
        self.assertEqual(ask(even, steps((2, 0), (0, 2)), shift(1, 0), RULE)[3][0], 2)

    def test_places_that_are_no_corners_do_not_count(self):
        self.assertEqual(last(begin(6, [(0, 0), (6, 0), (0, 6), (1, 1), (3, 0)]), RULE)[0], 1)

    def test_of_36(self):
        for before in (
            [begin(6, TRIANGLE), steps((6, 0), (0, 6))], [steps((6, 0), (1, 6))], [steps((1, 6), (6, 0))],
            [cut(18, 0, 1), cut(0, 4, 3)],
        ):
            told = last(*before, RULE)
            self.assertEqual(told[0], 36)
            self.assertEqual(len(told), 147)

    def test_of_37_and_more(self):
        for before in (
            [steps((6, 1), (-1, 6))], [steps((-1, 6), (6, 1))], [steps((6, 2), (-1, 6))], [steps((6, 3), (-3, 5))],
            [cut(19, 0, 1), cut(0, 2, 1)], [cut(7, 11, 6), steps((6, 6), (-6, 6))],
        ):
            self.assertEqual(last(*before, RULE), [-5])

    def test_refused_all_is_as_it_was(self):
        before = [begin(2, [(1, 0), (5, 0), (0, 7)]), steps((6, 1), (-1, 6)), shift(1, 1)]
        was = ask(*before, *STATE)[3:]
        self.assertEqual(was[7:11], [[-5]] * 4)
        told = ask(*before, RULE, *STATE, UNDO, UNDO, RULE, UNDO)
        self.assertEqual(told[3:-2], [[-5], *was, [1], [0]])
        self.assertEqual(told[-1], [-6])
        self.assertEqual(told[-2], last(begin(2, [(1, 0), (5, 0), (0, 7)]), RULE))

    def test_answered_all_is_as_it_was(self):
        before = [begin(2, [(1, 0), (5, 0), (0, 7)]), steps((1, 1), (2, -1)), shift(1, 1)]
        was = ask(*before, *STATE)[3:]
        self.assertEqual(ask(*before, RULE, *STATE, UNDO, UNDO, UNDO)[4:], [*was, [1], [0], [-6]])


class Holds(unittest.TestCase):
    def test_of_all_sizes_that_can_be_counted(self):
        for before in (
            [], [begin(6, TRIANGLE), steps((6, 0), (0, 6))], [steps((1, 6), (6, 0)), shift(5, -3)],
            [begin(5, [(-7, 2), (4, -9), (11, 3), (2, 12)]), steps((2, 1), (1, -3))],
            [begin(4, [(1, 1), (9, 1), (1, 9)]), cut(0, 3, 4), steps((0, 2), (1, 1))],
        ):
            rule = last(*before, RULE)
            self.assertGreater(rule[0], 0)
            told = ask_each(before, [count(k) for k in range(61)])
            self.assertEqual([[rule_said(rule, k)] for k in range(61)], told)
            told = ask_each(before, [inside(k) for k in range(1, 61)])
            self.assertEqual([[rule_said(rule, -k)] for k in range(1, 61)], told)


if __name__ == "__main__":
    unittest.main()
