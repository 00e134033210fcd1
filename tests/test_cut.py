"""Call 3, cut."""

import unittest
from fractions import Fraction

from tests.helper import CORNERS, GREATEST, UNDO, as_answer, as_places, ask, begin, cut, cut_lists, in_lines, last
from tests.helper import lines_round, shift

SQUARE = [(0, 0), (4, 0), (4, 4), (0, 4)]
# Cut by -16, -15, 10 its corners' numbers become whole only by 1000.
FINE = [(-2, 0), (-3, -3), (2, 0)]


def half(number):
    return Fraction(number, 2)


class Bounds(unittest.TestCase):
    def test_not_two_numbers(self):
        for plus, minus in (
            ([], []), ([1], [0]), ([1] * 3, [0] * 3), ([1] * 2, [0]), ([1], [0] * 2), ([], [0] * 2), ([1] * 2, []),
            ([1] * 4, [0] * 4), ([1] * 1024, [0] * 1024),
        ):
            self.assertEqual(ask(cut_lists(5, 0, plus, minus)), [[-3]])

    def test_a_and_b_of_20_and_of_21(self):
        for sign in (1, -1):
            self.assertEqual(ask(begin(1, SQUARE), cut(sign * 20, 0, 20))[1], [4])
            self.assertEqual(ask(begin(1, SQUARE), cut(0, sign * 20, 20))[1], [4])
            for far in (21, GREATEST):
                self.assertEqual(ask(begin(1, SQUARE), cut(sign * far, 0, 20))[1], [-1])
                self.assertEqual(ask(begin(1, SQUARE), cut(0, sign * far, 20))[1], [-1])

    def test_c_plus_and_c_minus_each_by_itself(self):
        for c_plus, c_minus, answer in (
            (20, 0, 4), (20, 20, 4), (20, 18, 4), (0, 20, -4), (21, 0, -1), (0, 21, -1), (21, 21, -1), (21, 20, -1),
            (20, 21, -1), (GREATEST, GREATEST, -1), (GREATEST, 0, -1), (0, GREATEST, -1),
        ):
            self.assertEqual(ask(cut_lists(c_plus, c_minus, [0, 0], [0, 0])), [[answer]])

    def test_c_is_c_plus_less_c_minus(self):
        told = last(begin(1, SQUARE), cut_lists(20, 17, [1, 0], [0, 0]), CORNERS)
        self.assertEqual(told, as_answer([(0, 0), (3, 0), (3, 4), (0, 4)]))
        told = last(begin(1, SQUARE), cut_lists(17, 20, [0, 0], [1, 0]), CORNERS)
        self.assertEqual(told, as_answer([(3, 0), (4, 0), (4, 4), (3, 4)]))

    def test_a_and_b_are_plus_less_minus(self):
        for added in (20, 21, GREATEST - 20):
            told = last(begin(1, SQUARE), cut(-20, 1, 0, added), cut(0, 5, 10, added), CORNERS)
            self.assertEqual(told, as_answer([(0, 0), (4, 0), (4, 2), (Fraction(1, 10), 2)]))

    def test_of_several_refusals_the_one_told_first(self):
        self.assertEqual(ask(cut_lists(21, 0, [21], [0])), [[-3]])
        self.assertEqual(ask(cut_lists(0, 21, [0, 0], [0, 0, 0])), [[-3]])
        self.assertEqual(ask(cut(21, 0, -5)), [[-1]])
        self.assertEqual(ask(cut_lists(0, 21, [0, 0], [0, 0])), [[-1]])
        self.assertEqual(ask(begin(1, FINE), cut_lists(10, 21, [0, 0], [16, 15]))[1], [-1])


class What(unittest.TestCase):
    def same(self, places, line, corners):
        told = ask(begin(1, places), cut(*line), CORNERS)
        self.assertEqual(told[1:], [[len(corners)], as_answer(corners)])

    def test_a_and_b_both_0(self):
        for c in (0, 1, 20):
            self.same(SQUARE, (0, 0, c), SQUARE)
        for c in (-1, -20):
            self.assertEqual(ask(begin(1, SQUARE), cut(0, 0, c))[1], [-4])

    def test_a_line_that_misses_the_polygon(self):
        for line in ((1, 0, 5), (0, 1, 20), (-1, 0, 1), (-1, -1, 3), (2, 3, 20)):
            self.same(SQUARE, line, SQUARE)
        for line in ((1, 0, -1), (0, 1, -20), (-1, 0, -5), (-1, -1, -9), (1, 2, -1), (-2, -2, -17)):
            self.assertEqual(ask(begin(1, SQUARE), cut(*line))[1], [-4])

    def test_a_line_through_two_edges(self):
        self.same(SQUARE, (1, 1, 7), [(0, 0), (4, 0), (4, 3), (3, 4), (0, 4)])
        self.same(SQUARE, (-1, -1, -7), [(3, 4), (4, 3), (4, 4)])
        self.same(SQUARE, (2, 1, 6), [(0, 0), (3, 0), (1, 4), (0, 4)])
        self.same(SQUARE, (-2, -1, -6), [(1, 4), (3, 0), (4, 0), (4, 4)])

    def test_the_first_corner_anew(self):
        self.same([(0, 1), (4, 0), (4, 4)], (-1, 0, -2), [(2, half(1)), (4, 0), (4, 4), (2, half(5))])
        self.same([(0, 2), (2, 0), (4, 2), (2, 4)], (-1, 0, -1), [(1, 1), (2, 0), (4, 2), (2, 4), (1, 3)])
        self.same([(0, 2), (2, 0), (4, 2), (2, 4)], (-1, 1, 0), [(1, 1), (2, 0), (4, 2), (3, 3)])

    def test_a_line_through_a_corner(self):
        self.same(SQUARE, (1, 1, 8), SQUARE)
        self.same(SQUARE, (2, 1, 8), [(0, 0), (4, 0), (2, 4), (0, 4)])
        self.same(SQUARE, (-2, -1, -8), [(2, 4), (4, 0), (4, 4)])

    def test_a_line_along_an_edge(self):
        self.same(SQUARE, (1, 0, 4), SQUARE)
        self.same(SQUARE, (-1, 0, 0), SQUARE)
        self.same(SQUARE, (0, 5, 20), SQUARE)
        self.same([(0, 0), (3, 0), (0, 3)], (2, 2, 6), [(0, 0), (3, 0), (0, 3)])

    def test_a_line_through_two_corners(self):
        self.same(SQUARE, (1, -1, 0), [(0, 0), (4, 4), (0, 4)])
        self.same(SQUARE, (-1, 1, 0), [(0, 0), (4, 0), (4, 4)])
        self.same(SQUARE, (1, 1, 4), [(0, 0), (4, 0), (0, 4)])
        self.same(SQUARE, (-3, -3, -12), [(0, 4), (4, 0), (4, 4)])

    def test_fractions(self):
        self.same([(0, 0), (3, 0), (0, 3)], (2, 7, 5), [(0, 0), (half(5), 0), (0, Fraction(5, 7))])
        self.same([(0, 0), (-3, 0), (0, -3)], (-2, -7, 5), [(half(-5), 0), (0, Fraction(-5, 7)), (0, 0)])

    def test_a_point_alone_would_be_left(self):
        for line in ((1, 1, 0), (-1, -1, -8), (-1, 1, -4), (1, 2, 0), (5, -1, -4)):
            self.assertEqual(ask(begin(1, SQUARE), cut(*line))[1], [-4])

    def test_a_line_alone_would_be_left(self):
        for line in ((1, 0, 0), (0, 1, 0), (-1, 0, -4), (0, -5, -20)):
            self.assertEqual(ask(begin(1, SQUARE), cut(*line))[1], [-4])
        self.assertEqual(ask(begin(1, [(0, 0), (3, 0), (0, 3)]), cut(-1, -1, -3))[1], [-4])

    def test_cut_again_and_again(self):
        told = ask(begin(1, SQUARE), cut(1, 1, 6), cut(-1, -1, -2), cut(1, -1, 2), cut(-1, 1, 2), CORNERS)
        corners = [(0, 2), (2, 0), (4, 2), (2, 4)]
        self.assertEqual(told, [[4], [5], [6], [5], [4], as_answer(corners)])


class Fineness(unittest.TestCase):
    def test_just_1000(self):
        corners = [(Fraction(-5, 8), 0), (Fraction(8, 25), Fraction(-126, 125)), (2, 0)]
        self.assertEqual(ask(begin(1, FINE), cut(-16, -15, 10), CORNERS), [[3], [3], as_answer(corners)])

    def test_more_than_1000(self):
        # These need 1001, 1002 and 1003.
        for q, places, line in (
            (1, [(2, -2), (-2, 1), (1, -3)], (-5, 19, 2)), (2, [(-1, 6), (5, -5), (-2, 2)], (7, 19, -10)),
            (1, [(3, 2), (2, 2), (-1, -2)], (-9, -8, 0)),
        ):
            told = ask(begin(q, places), CORNERS, cut(*line), CORNERS, UNDO)
            self.assertEqual(told[2:], [[-5], told[1], [-6]])

    def test_of_several_cuts_together(self):
        # Sevenths, elevenths and thirteenths together need 1001, any two of them fewer.
        sevenths, elevenths, thirteenths = cut(7, 0, 1), cut(0, 11, 1), cut(-13, -13, -1)
        self.assertEqual(ask(sevenths, elevenths, thirteenths), [[4], [4], [-5]])
        self.assertEqual(ask(thirteenths, elevenths, sevenths), [[5], [5], [-5]])
        self.assertEqual(ask(sevenths, thirteenths), [[4], [5]])

    def test_corners_that_are_cut_off_do_not_count(self):
        thirds = [(-7, 0), (-9, -9), (6, 0)]
        told = ask(begin(3, thirds), cut(-16, -15, 10), CORNERS)
        self.assertEqual(told[1:], ask(begin(1, FINE), cut(-16, -15, 10), CORNERS)[1:])
        self.assertEqual(told[1], [3])

    def test_places_that_are_no_corners_do_not_count(self):
        sixths = [(6 * x, 6 * y) for x, y in FINE] + [(1, 0), (5, -1)]
        told = ask(begin(6, sixths), cut(-16, -15, 10), CORNERS)
        self.assertEqual(told[1:], ask(begin(1, FINE), cut(-16, -15, 10), CORNERS)[1:])
        self.assertEqual(told[1], [3])


class Side(unittest.TestCase):
    def test_just_the_points_it_had_on_this_side(self):
        grid = [(Fraction(x, 6), Fraction(y, 6)) for x in range(-20, 21) for y in range(-20, 21)]
        for q, places, line in (
            (1, [(-3, -2), (3, -1), (2, 3), (-2, 2)], (1, 2, 1)), (3, [(-9, 0), (1, -8), (7, 5)], (-2, 3, 2)),
            (2, [(-5, -5), (5, -5), (0, 6), (-6, 1)], (-1, -1, 1)), (6, [(-11, 0), (0, -11), (11, 0), (0, 11)], (3, 0, -2)),
        ):
            told = ask(begin(q, places), CORNERS, cut(*line), CORNERS)
            before, behind = lines_round(as_places(told[1])), lines_round(as_places(told[3]))
            a, b, c = line
            had = [place for place in grid if in_lines(before, place) and a * place[0] + b * place[1] <= c]
            self.assertGreater(len(had), 10)
            self.assertEqual([place for place in grid if in_lines(behind, place)], had)


class Refused(unittest.TestCase):
    def test_all_is_as_it_was(self):
        before = [begin(1, FINE), shift(1, 1), shift(-1, -1)]
        was = last(*before, CORNERS)
        for refused, number in (
            (cut_lists(1, 0, [1], [0]), -3), (cut(21, 0, 1), -1), (cut_lists(21, 21, [1, 0], [0, 0]), -1),
            (cut(1, 0, -20), -4), (cut(0, 1, -3), -4), (cut(-1, -18, 18), -5),
        ):
            told = ask(*before, refused, CORNERS, UNDO, UNDO, UNDO)
            self.assertEqual(told[3:], [[number], was, [1], [0], [-6]])


if __name__ == "__main__":
    unittest.main()
