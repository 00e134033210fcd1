"""Call 8, count."""

import unittest

from tests.helper import GREATEST, STATE, UNDO, ask, ask_each, begin, count, cut, last, shift, steps

THIRDS = [(1, 1), (2, 1), (1, 2)]
WIDE = [(-12, -12), (12, -12), (12, 12), (-12, 12)]


class Bounds(unittest.TestCase):
    def test_k_of_60_and_of_61(self):
        self.assertEqual(ask(count(0), count(1), count(59), count(60)), [[1], [4], [3600], [3721]])
        for k in (61, 62, 120, 2 ** 32, 2 ** 63, GREATEST):
            self.assertEqual(ask(count(k)), [[-1]])

    def test_refused_all_is_as_it_was(self):
        before = [begin(2, [(1, 0), (5, 0), (0, 7)]), steps((1, 1), (2, -1)), shift(1, 1)]
        was = ask(*before, *STATE)[3:]
        told = ask(*before, count(61), count(GREATEST), *STATE, UNDO, UNDO, UNDO)
        self.assertEqual(told[3:], [[-1], [-1], *was, [1], [0], [-6]])

    def test_answered_all_is_as_it_was(self):
        before = [begin(2, [(1, 0), (5, 0), (0, 7)]), steps((1, 1), (2, -1)), shift(1, 1)]
        was = ask(*before, *STATE)[3:]
        told = ask(*before, count(0), count(60), *STATE, UNDO, UNDO, UNDO)
        self.assertEqual(told[5:], [*was, [1], [0], [-6]])


class Sizes(unittest.TestCase):
    def test_0_times_as_large_it_has_the_origin_alone(self):
        for before in (
            [], [begin(3, THIRDS)], [begin(1, [(5, 5), (7, 5), (5, 9)])], [begin(6, [(-1, -1), (-2, -5), (-7, 4)])],
            [shift(20, 20), steps((6, 1), (-1, 6))], [steps((6, 6), (-6, 6)), cut(3, 5, 4)],
        ):
            self.assertEqual(last(*before, count(0)), [1])

    def test_whole_corners(self):
        self.assertEqual(ask_each([], [count(k) for k in range(61)]), [[(k + 1) ** 2] for k in range(61)])
        triangle = begin(1, [(0, 0), (1, 0), (0, 1)])
        self.assertEqual(ask_each([triangle], [count(k) for k in range(61)]), [[(k + 1) * (k + 2) // 2] for k in range(61)])

    def test_corners_of_thirds(self):
        told = ask(begin(3, THIRDS), *[count(k) for k in range(10)])[1:]
        self.assertEqual(told, [[1], [0], [1], [3], [1], [3], [6], [3], [6], [10]])

    def test_places_on_an_edge_count(self):
        self.assertEqual(last(begin(2, [(0, 1), (2, 1), (2, 3), (0, 3)]), count(1)), [2])
        self.assertEqual(last(begin(1, [(0, 0), (4, 2), (0, 2)]), count(1)), [9])

    def test_an_upright_edge_on_either_side(self):
        self.assertEqual(last(begin(2, [(2, -1), (2, 5), (3, 2)]), count(1)), [3])
        self.assertEqual(last(begin(2, [(2, -1), (2, 5), (1, 2)]), count(1)), [3])
        self.assertEqual(last(begin(2, [(1, -1), (1, 5), (3, 2)]), count(1)), [1])

    def test_the_widest(self):
        self.assertEqual(last(begin(1, WIDE), count(60)), [1441 ** 2])
        line = [begin(1, WIDE)] + [shift(20, -20)] * 4 + [shift(8, -8)]
        self.assertEqual(last(*line, count(1)), [625])
        self.assertEqual(last(*line, count(60)), [1441 ** 2])


class Steps(unittest.TestCase):
    def test_every_second_point(self):
        told = ask(steps((2, 0), (0, 2)), *[count(k) for k in (0, 1, 2, 3, 4, 60)])[1:]
        self.assertEqual(told, [[1], [1], [4], [4], [9], [31 ** 2]])

    def test_points_of_one_colour(self):
        for first, second in (((1, 1), (1, -1)), ((1, -1), (1, 1)), ((-1, 1), (3, -1)), ((2, 0), (1, 1)), ((1, 1), (0, 2))):
            told = ask(steps(first, second), *[count(k) for k in (0, 1, 2, 3, 60)])[1:]
            self.assertEqual(told, [[1], [2], [5], [8], [1861]])

    def test_steps_that_lead_to_all(self):
        for first, second in (((0, 1), (1, 0)), ((-1, 0), (0, 1)), ((6, 5), (5, 4)), ((1, 6), (0, -1)), ((5, 6), (-4, -5))):
            told = ask(begin(1, WIDE), steps(first, second), count(0), count(1), count(60))[1:]
            self.assertEqual(told, [[1], [1], [625], [1441 ** 2]])

    def test_far_apart(self):
        told = ask(begin(1, WIDE), steps((6, 6), (-6, 6)), count(1), count(2), count(60))[1:]
        self.assertEqual(told, [[72], [13], [41], [(241 ** 2 + 1) // 2]])

    def test_back_again(self):
        told = ask(steps((2, 0), (0, 2)), count(2), UNDO, count(2))
        self.assertEqual(told, [[4], [4], [0], [9]])
        self.assertEqual(ask(steps((2, 0), (0, 2)), begin(1, THIRDS), count(1))[2], [3])


class Changed(unittest.TestCase):
    def test_cut(self):
        told = ask(begin(1, WIDE), cut(1, 0, 3), count(1), cut(-2, 0, 7), count(1), cut(0, 5, 12), count(1))
        self.assertEqual(told[2::2], [[16 * 25], [7 * 25], [7 * 15]])

    def test_moved(self):
        triangle = begin(2, [(1, 1), (7, 1), (1, 7)])
        told = ask(triangle, count(1), shift(-5, 9), count(1), count(2))
        self.assertEqual(told[1:], [[6], [0], [6], [28]])
        told = ask(triangle, shift(-5, 9), steps((2, 0), (0, 2)), count(1), shift(1, 0), count(1))
        self.assertEqual(told[3:], [[3], [0], [1]])


if __name__ == "__main__":
    unittest.main()
