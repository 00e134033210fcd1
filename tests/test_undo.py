"""Call 5, undo."""

import unittest

from tests.helper import CORNERS, UNDO, ask, begin, cut, last, shift, shift_lists, steps
from wholepointsdesk.desk import Desk


class Undo(unittest.TestCase):
    def test_nothing_kept(self):
        first = last(CORNERS)
        self.assertEqual(ask(UNDO, UNDO, CORNERS), [[-6], [-6], first])
        self.assertEqual(ask(shift(1, 0), UNDO, UNDO, CORNERS), [[0], [0], [-6], first])

    def test_behind_each_of_the_calls(self):
        for call in (steps((2, 1), (0, 3)), cut(3, 5, 4), cut(1, 0, 7), shift(3, -4)):
            told = ask(begin(5, [(1, 2), (9, 4), (3, 11)]), CORNERS, call, UNDO, CORNERS, UNDO)
            self.assertEqual(told[3:], [[0], told[1], [-6]])

    def test_one_after_another_backwards(self):
        line = [CORNERS, cut(3, 5, 4), CORNERS, shift(3, -4), CORNERS, steps((2, 1), (0, 3)), cut(0, -4, 14), CORNERS]
        told = ask(*line, UNDO, CORNERS, UNDO, CORNERS, UNDO, CORNERS, UNDO, CORNERS, UNDO)
        self.assertEqual(told[8:], [[3], told[4], [2], told[4], [1], told[2], [0], told[0], [-6]])

    def test_on_from_there(self):
        told = ask(shift(1, 0), shift(0, 1), UNDO, shift(5, 5), UNDO, UNDO, UNDO, CORNERS)
        self.assertEqual(told, [[0], [0], [1], [0], [1], [0], [-6], last(CORNERS)])

    def test_undo_itself_is_not_kept(self):
        told = ask(shift(1, 0), shift(1, 0), UNDO, UNDO, UNDO, CORNERS)
        self.assertEqual(told[2:], [[1], [0], [-6], last(CORNERS)])

    def test_the_latest_20(self):
        for many in (1, 19, 20, 21, 22, 37):
            line = [shift(1, 0)] * many
            kept = min(many, 20)
            self.assertEqual(ask(*line, UNDO)[-1], [kept - 1])
            # The room for calls in one line ends at 40.
            backs = min(kept, 39 - many)
            told = ask(*line, *[UNDO] * backs, CORNERS)
            self.assertEqual(told[many:-1], [[kept - k] for k in range(1, backs + 1)])
            self.assertEqual(told[-1], last(CORNERS, *[shift(1, 0)] * (many - backs), CORNERS))

    def test_nothing_beyond_the_20(self):
        self.assertEqual(ask(*[shift(0, 1)] * 19, *[UNDO] * 20)[-2:], [[0], [-6]])
        self.assertEqual(ask(*[shift(0, 1)] * 20, *[UNDO] * 20)[-2:], [[1], [0]])
        # More than fit into a line of 40 calls.
        desk = Desk()
        for turn in range(50):
            self.assertEqual(desk.shift([1, 0], [0, 0]), [0])
        self.assertEqual([desk.undo() for turn in range(21)], [[k] for k in range(19, -1, -1)] + [[-6]])
        self.assertEqual(desk.tell_corners()[1:5], [30, 1, 0, 1])

    def test_behind_a_refusal_nothing_more_is_kept(self):
        refused = [steps((7, 0), (0, 1)), steps((1, 1), (2, 2)), cut(21, 0, 0), cut(1, 0, -1), shift(21, 0)]
        refused += [shift_lists([1], [1]), begin(0, [])]
        told = ask(shift(2, 2), *refused, CORNERS, UNDO, UNDO)
        self.assertEqual([answer[0] for answer in told[1:8]], [-1, -4, -1, -4, -1, -3, -1])
        self.assertEqual(told[8:], [last(shift(2, 2), CORNERS), [0], [-6]])

    def test_behind_begin_nothing_is_kept(self):
        self.assertEqual(ask(shift(2, 2), begin(1, [(0, 0), (1, 0), (0, 1)]), UNDO)[2], [-6])

    def test_corners_are_not_kept(self):
        self.assertEqual(ask(CORNERS, CORNERS, UNDO)[2], [-6])

    def test_steps_as_they_were(self):
        desk = Desk()
        desk.change_steps([2, 1, 0, 3], [0] * 4)
        desk.change_steps([5, 0, 0, 5], [0] * 4)
        desk.shift([1, 1], [0, 0])
        known = []
        for turn in range(3):
            desk.undo()
            known.append(desk.steps)
        self.assertEqual(known, [((5, 0), (0, 5)), ((2, 1), (0, 3)), ((1, 0), (0, 1))])


if __name__ == "__main__":
    unittest.main()
