"""Call 1, begin."""

import unittest

from tests.helper import CORNERS, GREATEST, UNDO, as_answer, ask, begin, begin_lists, cut, last, shift, steps
from wholepointsdesk.desk import Desk

TRIANGLE = [(0, 0), (3, 0), (0, 3)]
EIGHT = [(0, 1), (1, 0), (2, 0), (3, 1), (3, 2), (2, 3), (1, 3), (0, 2)]


class Q(unittest.TestCase):
    def test_from_1_to_6_divides_the_places(self):
        for q in range(1, 7):
            told = ask(begin(q, [(0, 0), (2 * q, 0), (0, 12 * q)]), CORNERS)
            self.assertEqual(told, [[3], as_answer([(0, 0), (2, 0), (0, 12)])])

    def test_sixths_in_lowest_terms(self):
        told = last(begin(6, [(1, 2), (4, 3), (-5, 9)]), CORNERS)
        self.assertEqual(told, [3, -5, 6, 3, 2, 1, 6, 1, 3, 2, 3, 1, 2])

    def test_out_of_bounds(self):
        for q in (0, 7, 8, 12, GREATEST):
            self.assertEqual(ask(begin(q, TRIANGLE)), [[-1]])


class Lists(unittest.TestCase):
    def test_not_as_long_as_each_other(self):
        for plus, minus in (
            ([0] * 6, [0] * 8), ([0] * 8, [0] * 6), ([0] * 6, [0] * 7), ([0] * 6, []), ([], [0] * 6), ([1], [])
        ):
            self.assertEqual(ask(begin_lists(1, plus, minus)), [[-3]])

    def test_an_odd_number_of_them(self):
        for count in (1, 3, 5, 7, 15, 17, 1023):
            self.assertEqual(ask(begin_lists(1, [1] * count, [0] * count)), [[-3]])

    def test_empty_ones_are_no_places(self):
        self.assertEqual(ask(begin_lists(1, [], [])), [[-1]])

    def test_numbers_are_plus_less_minus(self):
        for added in (0, 1, 13, 10 ** 6, GREATEST - 12):
            told = ask(begin(1, [(-12, 12), (12, -12), (5, 5)], added), CORNERS)
            self.assertEqual(told, [[3], as_answer([(-12, 12), (12, -12), (5, 5)])])


class Places(unittest.TestCase):
    def test_three_to_eight(self):
        self.assertEqual(ask(begin(1, EIGHT[:3])), [[3]])
        self.assertEqual(ask(begin(1, EIGHT)), [[8]])

    def test_too_few_or_too_many(self):
        self.assertEqual(ask(begin(1, EIGHT[:1])), [[-1]])
        self.assertEqual(ask(begin(1, EIGHT[:2])), [[-1]])
        self.assertEqual(ask(begin(1, EIGHT + [(1, 1)])), [[-1]])
        # What stands again counts, though it makes no corner.
        self.assertEqual(ask(begin(1, TRIANGLE * 3)), [[-1]])
        self.assertEqual(ask(begin_lists(1, [1] * 1024, [0] * 1024)), [[-1]])

    def test_just_12_in_its_own_numbers(self):
        for q in range(1, 7):
            far = 12 * q
            for places in (
                [(0, 0), (far, 0), (0, 1)], [(0, 0), (1, 0), (0, far)],
                [(0, 0), (-far, 0), (0, 1)], [(0, 0), (1, 0), (0, -far)],
                [(far, far), (-far, -far), (far, -far)],
            ):
                self.assertEqual(ask(begin(q, places)), [[3]])

    def test_just_beyond_12(self):
        for q in range(1, 7):
            far = 12 * q + 1
            for places in (
                [(0, 0), (far, 0), (0, 1)], [(0, 0), (1, 0), (0, far)],
                [(0, 0), (-far, 0), (0, 1)], [(0, 0), (1, 0), (0, -far)],
                [(far, 0), (0, 0), (0, 1)], [(0, -far), (1, 1), (0, 0)],
            ):
                self.assertEqual(ask(begin(q, places)), [[-1]])

    def test_far_beyond_12(self):
        self.assertEqual(ask(begin(6, [(0, 0), (GREATEST, 0), (0, 1)])), [[-1]])
        self.assertEqual(ask(begin(6, [(0, 0), (1, 0), (0, -GREATEST)])), [[-1]])

    def test_all_in_one_line(self):
        for places in (
            [(0, 0), (1, 1), (2, 2)], [(0, 0), (1, 0), (5, 0)], [(3, 0), (3, 5), (3, -5)],
            [(-4, 2), (-2, 1), (0, 0), (2, -1), (4, -2)], [(1, 2), (1, 2), (1, 2)], [(0, 0)] * 8,
            [(0, 0), (1, 2), (0, 0)], [(0, 0), (1, 2), (1, 2)], [(0, 1), (3, 2), (9, 4), (6, 3)],
        ):
            for q in (1, 6):
                self.assertEqual(ask(begin(q, places)), [[-4]])


class Corners(unittest.TestCase):
    def same(self, places, corners):
        self.assertEqual(ask(begin(1, places), CORNERS), [[len(corners)], as_answer(corners)])

    def test_places_that_stand_twice(self):
        self.same([(0, 0), (0, 0), (3, 0), (0, 3), (3, 0), (0, 3)], TRIANGLE)

    def test_places_on_an_edge(self):
        self.same([(0, 0), (1, 0), (3, 0), (2, 1), (1, 2), (0, 3), (0, 2), (0, 1)], TRIANGLE)

    def test_places_within(self):
        self.same([(1, 1), (0, 0), (4, 0), (2, 1), (4, 4), (0, 4), (3, 3), (2, 2)], [(0, 0), (4, 0), (4, 4), (0, 4)])

    def test_counterclockwise_whatever_the_order_told(self):
        square = [(0, 0), (4, -1), (5, 3), (1, 4)]
        for order in ((0, 1, 2, 3), (3, 2, 1, 0), (2, 0, 3, 1), (1, 3, 0, 2)):
            self.same([square[k] for k in order], square)

    def test_the_first_has_the_least_x(self):
        self.same([(2, -5), (-1, 3), (4, 4)], [(-1, 3), (2, -5), (4, 4)])

    def test_the_first_of_two_has_the_lesser_y(self):
        self.same([(-2, 5), (-2, -1), (3, 0)], [(-2, -1), (3, 0), (-2, 5)])
        self.same([(0, 3), (0, -3), (-1, 0), (-1, 1)], [(-1, 0), (0, -3), (0, 3), (-1, 1)])

    def test_eight_corners(self):
        self.same(EIGHT, EIGHT)


class Refusals(unittest.TestCase):
    def test_of_several_the_one_told_first(self):
        cases = (
            (begin_lists(0, [1], []), -1), (begin_lists(7, [1] * 3, [0] * 3), -1), (begin(0, [(0, 0)] * 3), -1),
            (begin_lists(6, [GREATEST] * 3, [0] * 3), -3), (begin_lists(6, [GREATEST] * 6, [0] * 4), -3),
            (begin_lists(1, [1] * 18, [0] * 19), -3), (begin_lists(1, [1], [0]), -3),
            (begin(1, [(13, 13)] * 3), -1), (begin(1, [(0, 0)] * 2), -1), (begin(1, [(0, 0)] * 9), -1),
        )
        for call, refusal in cases:
            self.assertEqual(ask(call), [[refusal]])

    def test_all_is_as_it_was(self):
        before = [begin(2, [(1, 0), (5, 0), (0, 7)]), steps((1, 2), (3, 4)), shift(1, 1)]
        was = last(*before, CORNERS)
        for refused, number in (
            (begin(0, TRIANGLE), -1), (begin_lists(1, [1], []), -3), (begin(1, TRIANGLE[:2]), -1),
            (begin(1, [(13, 0), (0, 0), (0, 1)]), -1), (begin(1, [(0, 0), (1, 1), (2, 2)]), -4),
        ):
            told = ask(*before, refused, CORNERS, UNDO, UNDO, UNDO)
            self.assertEqual(told[3:], [[number], was, [1], [0], [-6]])


class Again(unittest.TestCase):
    def test_another_polygon_and_nothing_kept(self):
        told = ask(begin(1, TRIANGLE), shift(1, 0), cut(1, 0, 2), begin(2, EIGHT), CORNERS, UNDO, CORNERS)
        eighth = as_answer([(x / 2, y / 2) for x, y in EIGHT])
        self.assertEqual(told, [[3], [0], [4], [8], eighth, [-6], eighth])

    def test_the_first_steps(self):
        desk = Desk()
        self.assertEqual(desk.steps, ((1, 0), (0, 1)))
        desk.change_steps([2, 0, 0, 3], [0, 0, 0, 0])
        self.assertEqual(desk.begin(1, [0, 0, 1, 0, 0, 1], [0] * 6), [3])
        self.assertEqual(desk.steps, ((1, 0), (0, 1)))


if __name__ == "__main__":
    unittest.main()
