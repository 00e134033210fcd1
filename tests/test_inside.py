"""Call 9, inside."""

import unittest

from tests.helper import GREATEST, STATE, UNDO, ask, ask_each, begin, cut, inside, last, shift, steps

THIRDS = [(1, 1), (2, 1), (1, 2)]
WIDE = [(-12, -12), (12, -12), (12, 12), (-12, 12)]


class Bounds(unittest.TestCase):
    def test_k_of_0_and_of_1(self):
        self.assertEqual(ask(inside(0), inside(1)), [[-1], [0]])

    def test_k_of_60_and_of_61(self):
        self.assertEqual(ask(inside(59), inside(60)), [[58 ** 2], [59 ** 2]])
        for k in (61, 62, 120, 2 ** 32, 2 ** 63, GREATEST):
            self.assertEqual(ask(inside(k)), [[-1]])

    def test_refused_all_is_as_it_was(self):
        before = [begin(2, [(1, 0), (5, 0), (0, 7)]), steps((1, 1), (2, -1)), shift(1, 1)]
        was = ask(*before, *STATE)[3:]
        told = ask(*before, inside(0), inside(61), *STATE, UNDO, UNDO, UNDO)
        self.assertEqual(told[3:], [[-1], [-1], *was, [1], [0], [-6]])

    def test_answered_all_is_as_it_was(self):
        before = [begin(2, [(1, 0), (5, 0), (0, 7)]), steps((1, 1), (2, -1)), shift(1, 1)]
        was = ask(*before, *STATE)[3:]
        told = ask(*before, inside(1), inside(60), *STATE, UNDO, UNDO, UNDO)
        self.assertEqual(told[5:], [*was, [1], [0], [-6]])


class Sizes(unittest.TestCase):
    def test_whole_corners(self):
        asked = [inside(k) for k in range(1, 61)]
        self.assertEqual(ask_each([], asked), [[(k - 1) ** 2] for k in range(1, 61)])
        triangle = begin(1, [(0, 0), (1, 0), (0, 1)])
        self.assertEqual(ask_each([triangle], asked), [[(k - 1) * (k - 2) // 2] for k in range(1, 61)])

    def test_corners_of_thirds(self):
        told = ask(begin(3, THIRDS), *[inside(k) for k in range(1, 10)])[1:]
        self.assertEqual(told, [[0], [0], [0], [0], [1], [0], [1], [3], [1]])

    def test_places_on_an_edge_do_not_count(self):
        self.assertEqual(last(begin(2, [(0, 1), (2, 1), (2, 3), (0, 3)]), inside(1)), [0])
        self.assertEqual(last(begin(1, [(0, 0), (4, 2), (0, 2)]), inside(1)), [1])
        self.assertEqual(last(begin(1, [(0, -1), (1, 0), (0, 1), (-1, 0)]), inside(1)), [1])
        self.assertEqual(last(begin(1, [(0, -2), (2, 0), (0, 2), (-2, 0)]), inside(1)), [5])

    def test_edges_between_two_whole_points(self):
        self.assertEqual(last(begin(2, [(-1, -1), (1, -1), (1, 1), (-1, 1)]), inside(1)), [1])
        self.assertEqual(last(begin(2, [(-1, -1), (3, -1), (3, 3), (-1, 3)]), inside(1)), [4])

    def test_an_upright_edge_on_either_side(self):
        self.assertEqual(last(begin(2, [(2, -1), (2, 5), (5, 2)]), inside(1)), [1])
        self.assertEqual(last(begin(2, [(2, -1), (2, 5), (-1, 2)]), inside(1)), [1])
        self.assertEqual(last(begin(2, [(2, -1), (2, 5), (4, 2)]), inside(1)), [0])

    def test_the_widest(self):
        self.assertEqual(ask(begin(1, WIDE), inside(1), inside(60))[1:], [[23 ** 2], [1439 ** 2]])
        line = [begin(1, WIDE)] + [shift(-20, 20)] * 4 + [shift(-8, 8)]
        self.assertEqual(ask(*line, inside(1), inside(60))[6:], [[23 ** 2], [1439 ** 2]])


class Steps(unittest.TestCase):
    def test_every_second_point(self):
        told = ask(steps((2, 0), (0, 2)), *[inside(k) for k in (1, 2, 3, 4, 5, 60)])[1:]
        self.assertEqual(told, [[0], [0], [1], [1], [4], [29 ** 2]])

    def test_points_of_one_colour(self):
        for first, second in (((1, 1), (1, -1)), ((1, -1), (1, 1)), ((-1, 1), (3, -1)), ((2, 0), (1, 1))):
            told = ask(steps(first, second), *[inside(k) for k in (1, 2, 3, 4, 60)])[1:]
            self.assertEqual(told, [[0], [1], [2], [5], [1741]])

    def test_steps_that_lead_to_all(self):
        for first, second in (((0, 1), (1, 0)), ((6, 5), (5, 4)), ((1, 6), (0, -1)), ((5, 6), (-4, -5))):
            self.assertEqual(ask(begin(1, WIDE), steps(first, second), inside(1), inside(60))[2:], [[529], [1439 ** 2]])

    def test_far_apart(self):
        told = ask(begin(1, WIDE), steps((6, 6), (-6, 6)), inside(1), inside(60))[1:]
        self.assertEqual(told, [[72], [5], [(239 ** 2 + 1) // 2]])


class Changed(unittest.TestCase):
    def test_cut(self):
        told = ask(begin(1, WIDE), cut(1, 0, 3), inside(1), cut(-2, 0, 7), inside(1), cut(0, 5, 12), inside(1))
        self.assertEqual(told[2::2], [[14 * 23], [6 * 23], [6 * 14]])

    def test_moved(self):
        told = ask(begin(1, [(0, 0), (4, 0), (0, 4)]), inside(1), shift(-5, 9), inside(1), steps((2, 0), (0, 2)), inside(1))
        self.assertEqual(told[1::2], [[3], [3], [1]])


if __name__ == "__main__":
    unittest.main()
