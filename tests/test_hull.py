"""Call 12, hull."""

import unittest

from tests.helper import HULL, STATE, UNDO, ask, begin, cut, last, shift, steps


class Hull(unittest.TestCase):
    def same(self, before, corners):
        self.assertEqual(last(*before, HULL), [len(corners)] + [number for point in corners for number in point])

    def test_at_the_very_beginning(self):
        self.assertEqual(ask(HULL), [[4, 0, 0, 1, 0, 1, 1, 0, 1]])

    def test_of_no_point(self):
        self.same([begin(3, [(1, 1), (2, 1), (1, 2)])], [])
        self.same([begin(2, [(1, -24), (1, 24), (1, 0), (0, 1)]), cut(-4, 0, -1)], [])
        self.same([begin(6, [(1, 5), (65, 2), (68, 5)])], [])
        self.same([shift(1, 1), steps((3, 0), (0, 3))], [])

    def test_of_one_point(self):
        self.same([begin(2, [(-1, -1), (1, -1), (0, 1)])], [(0, 0)])
        self.same([begin(2, [(-1, -1), (1, -1), (0, 1)]), shift(-7, 20)], [(-7, 20)])
        self.same([steps((2, 0), (0, 2))], [(0, 0)])
        self.same([shift(1, 1), steps((2, 0), (0, 2))], [(2, 2)])

    def test_of_two_points(self):
        self.same([begin(2, [(1, 1), (5, 1), (3, 3)]), shift(0, -1)], [(1, 0), (2, 0)])
        self.same([steps((1, 1), (1, -1))], [(0, 0), (1, 1)])
        self.same([shift(1, 0), steps((1, 1), (1, -1))], [(1, 1), (2, 0)])

    def test_all_in_one_line(self):
        self.same([begin(2, [(-8, 1), (-8, -1), (10, 1), (10, -1)])], [(-4, 0), (5, 0)])
        self.same([begin(2, [(1, -8), (-1, -8), (1, 10), (-1, 10)])], [(0, -4), (0, 5)])
        self.same([begin(6, [(-20, -19), (-19, -20), (26, 25), (25, 26)])], [(-3, -3), (4, 4)])
        self.same([begin(6, [(-20, 19), (-19, 20), (26, -25), (25, -26)])], [(-3, 3), (4, -4)])
        self.same([begin(1, [(0, 0), (9, 0), (9, 1), (0, 1)]), steps((2, 0), (0, 2))], [(0, 0), (8, 0)])
        self.same([begin(1, [(0, 0), (1, 0), (1, 9), (0, 9)]), steps((0, 3), (2, 0))], [(0, 0), (0, 9)])

    def test_of_more(self):
        self.same([begin(1, [(0, 0), (3, 0), (0, 3)])], [(0, 0), (3, 0), (0, 3)])
        self.same([begin(2, [(-1, -1), (7, -1), (-1, 7)])], [(0, 0), (3, 0), (0, 3)])
        self.same([begin(2, [(0, -5), (5, 0), (0, 5), (-5, 0)])], [(-2, 0), (0, -2), (2, 0), (0, 2)])
        self.same([begin(1, [(0, 0), (4, 0), (4, 4), (0, 4)]), cut(2, 2, 13)], [(0, 0), (4, 0), (4, 2), (2, 4), (0, 4)])

    def test_the_first_has_the_least_x_of_these_the_least_y(self):
        self.same([begin(1, [(-2, 5), (-2, -1), (3, 0)])], [(-2, -1), (3, 0), (-2, 5)])
        self.same([begin(1, [(2, -5), (-1, 3), (4, 4)])], [(-1, 3), (2, -5), (4, 4)])

    def test_points_on_its_edges_are_no_corners(self):
        self.same([begin(1, [(0, 0), (6, 0), (6, 3), (0, 3)])], [(0, 0), (6, 0), (6, 3), (0, 3)])
        self.same([begin(1, [(0, 0), (12, 4), (0, 8)])], [(0, 0), (12, 4), (0, 8)])

    def test_with_steps(self):
        square = begin(1, [(0, 0), (5, 0), (5, 5), (0, 5)])
        self.same([square, steps((2, 0), (0, 2))], [(0, 0), (4, 0), (4, 4), (0, 4)])
        self.same([square, steps((0, 2), (2, 0))], [(0, 0), (4, 0), (4, 4), (0, 4)])
        self.same([square, steps((-2, 0), (0, 3))], [(0, 0), (4, 0), (4, 3), (0, 3)])
        self.same([square, steps((1, 1), (1, -1))], [(0, 0), (4, 0), (5, 1), (5, 5), (1, 5), (0, 4)])
        self.same([square, steps((6, 5), (5, 4))], [(0, 0), (5, 0), (5, 5), (0, 5)])
        self.same([square, steps((2, 1), (-1, 2))], [(0, 0), (5, 0), (5, 5), (0, 5)])
        self.same([square, steps((2, 1), (1, 3)), cut(1, 0, 4)], [(0, 0), (4, 2), (3, 4), (0, 5)])

    def test_their_own_x_and_y(self):
        self.same([begin(1, [(4, 2), (10, 5), (6, 12)]), steps((2, 1), (1, 6))], [(4, 2), (10, 5), (7, 9)])

    def test_moved_beyond_the_first_places(self):
        line = [begin(1, [(-12, -12), (12, -12), (12, 12), (-12, 12)])] + [shift(20, -20)] * 4 + [shift(8, -8)]
        self.same(line, [(76, -100), (100, -100), (100, -76), (76, -76)])
        self.same(line + [steps((6, 5), (5, 4))], [(76, -100), (100, -100), (100, -76), (76, -76)])
        self.same(line + [steps((6, 6), (-6, 6))], [(78, -90), (84, -96), (96, -96), (96, -84), (90, -78), (78, -78)])

    def test_answered_all_is_as_it_was(self):
        before = [begin(2, [(1, 0), (5, 0), (0, 7)]), steps((1, 1), (2, -1)), shift(1, 1)]
        was = ask(*before, *STATE)[3:]
        self.assertEqual(ask(*before, HULL, *STATE, UNDO, UNDO, UNDO)[4:], [*was, [1], [0], [-6]])

    def test_behind_undo(self):
        told = ask(HULL, cut(1, 1, 1), HULL, UNDO, HULL, steps((2, 0), (0, 2)), HULL, UNDO, HULL)
        self.assertEqual(told[2], [3, 0, 0, 1, 0, 0, 1])
        self.assertEqual(told[6], [1, 0, 0])
        self.assertEqual([told[4], told[8]], [told[0], told[0]])


if __name__ == "__main__":
    unittest.main()
