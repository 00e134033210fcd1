"""Call 11, far."""

import unittest

from tests.helper import GREATEST, RULE, STATE, UNDO, ask, ask_each, begin, count, cut, far, inside, last, rule_said, shift
from tests.helper import steps

MILLION = 10 ** 6
FINE = steps((6, 1), (-1, 6))
SOME = (
    [], [begin(6, [(0, 0), (1, 0), (0, 1)]), steps((6, 0), (0, 6))], [begin(3, [(1, 1), (2, 1), (1, 2)])],
    [steps((1, 6), (6, 0)), shift(5, -3)], [begin(5, [(-7, 2), (4, -9), (11, 3), (2, 12)]), steps((2, 1), (1, -3))],
    [begin(4, [(1, 1), (9, 1), (1, 9)]), cut(0, 3, 4), steps((0, 2), (1, 1))],
)


class Bounds(unittest.TestCase):
    def test_k_of_a_million_and_more(self):
        told = ask(far(MILLION - 1), far(MILLION), far(MILLION + 1), far(GREATEST))
        self.assertEqual(told[0], [0, MILLION ** 2, 1, (MILLION - 2) ** 2, 1])
        self.assertEqual(told[1:], [[0, (MILLION + 1) ** 2, 1, (MILLION - 1) ** 2, 1], [-1], [-1]])

    def test_a_period_of_36_and_of_37(self):
        self.assertEqual(last(steps((6, 0), (1, 6)), far(1)), [0, 1, 1, 0, 1])
        for before in ([FINE], [steps((-1, 6), (6, 1))], [cut(19, 0, 1), cut(0, 2, 1)]):
            for k in (0, 1, 37, MILLION):
                self.assertEqual(last(*before, far(k)), [-5])

    def test_of_two_refusals_the_one_told_first(self):
        self.assertEqual(ask(FINE, far(MILLION + 1), far(GREATEST))[1:], [[-1], [-1]])

    def test_refused_all_is_as_it_was(self):
        before = [begin(2, [(1, 0), (5, 0), (0, 7)]), steps((1, 1), (2, -1)), shift(1, 1)]
        was = ask(*before, *STATE)[3:]
        told = ask(*before, far(MILLION + 1), *STATE, UNDO, UNDO, UNDO)
        self.assertEqual(told[3:], [[-1], *was, [1], [0], [-6]])
        was = ask(*before, FINE, *STATE)[4:]
        told = ask(*before, FINE, far(3), *STATE, UNDO, UNDO, UNDO, UNDO)
        self.assertEqual(told[4:], [[-5], *was, [2], [1], [0], [-6]])

    def test_answered_all_is_as_it_was(self):
        before = [begin(2, [(1, 0), (5, 0), (0, 7)]), steps((1, 1), (2, -1)), shift(1, 1)]
        was = ask(*before, *STATE)[3:]
        self.assertEqual(ask(*before, far(5), *STATE, UNDO, UNDO, UNDO)[4:], [*was, [1], [0], [-6]])


class Answer(unittest.TestCase):
    def test_of_0(self):
        for before in SOME:
            self.assertEqual(last(*before, far(0)), [0, 1, 1, 1, 1])

    def test_of_1(self):
        self.assertEqual(ask(far(1)), [[0, 4, 1, 0, 1]])
        self.assertEqual(last(begin(2, [(-1, -1), (3, -1), (3, 3), (-1, 3)]), far(1)), [0, 4, 1, 4, 1])

    def test_as_count_and_inside_say(self):
        for before in SOME:
            told = ask_each(before, [far(k) for k in range(1, 61)])
            in_it = ask_each(before, [count(k) for k in range(1, 61)])
            within = ask_each(before, [inside(k) for k in range(1, 61)])
            self.assertEqual(told, [[0, *one, 1, *other, 1] for one, other in zip(in_it, within)])

    def test_as_the_rule_says(self):
        for before in SOME:
            rule = last(*before, RULE)
            for k in (0, 1, 35, 36, 37, 61, 1000, 65537, MILLION - 1, MILLION):
                self.assertEqual(last(*before, far(k)), [0, rule_said(rule, k), 1, rule_said(rule, -k), 1])

    def test_a_million_times_as_large(self):
        half = MILLION // 2
        self.assertEqual(last(steps((2, 0), (0, 2)), far(MILLION)), [0, (half + 1) ** 2, 1, (half - 1) ** 2, 1])
        self.assertEqual(last(steps((0, 2), (2, 0)), far(MILLION - 1)), [0, half ** 2, 1, (half - 1) ** 2, 1])
        told = last(begin(1, [(0, 0), (1, 0), (0, 1)]), far(MILLION))
        self.assertEqual(told, [0, (MILLION + 1) * (half + 1), 1, (MILLION - 1) * (half - 1), 1])
        # A third of a million and a third, so that in a row lie 333333 whole numbers and one more.
        told = last(begin(3, [(0, 0), (1, 0), (1, 1), (0, 1)]), far(MILLION))
        self.assertEqual(told, [0, 333334 ** 2, 1, 333333 ** 2, 1])

    def test_the_widest_a_million_times_as_large(self):
        wide = begin(1, [(-12, -12), (12, -12), (12, 12), (-12, 12)])
        for line in ([], [steps((6, 5), (5, 4))], [shift(20, 20), steps((0, 1), (-1, 6))]):
            told = last(wide, *line, far(MILLION))
            self.assertEqual(told, [0, (24 * MILLION + 1) ** 2, 1, (24 * MILLION - 1) ** 2, 1])


if __name__ == "__main__":
    unittest.main()
