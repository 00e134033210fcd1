"""Lines of calls: the form of what is handed in and given back."""

import unittest

from tests.helper import AREA, CORNERS, GREATEST, HULL, RULE, UNDO, begin, begin_lists, count, cut, cut_lists, far
from tests.helper import inside, shift, shift_lists, steps, steps_lists
from wholepointsdesk.polygon import answers

SQUARE = [4, 0, 1, 0, 1, 1, 1, 0, 1, 1, 1, 1, 1, 0, 1, 1, 1]


class Form(unittest.TestCase):
    def test_each_call_alone(self):
        self.assertEqual(answers([1, 2, 6, 0, 0, 4, 0, 0, 4, 6, 0, 0, 0, 0, 0, 0]), [1, 3])
        self.assertEqual(answers([2, 4, 2, 0, 0, 3, 4, 0, 1, 0, 0]), [1, 6])
        self.assertEqual(answers([3, 1, 0, 2, 1, 1, 2, 0, 0]), [1, 3])
        self.assertEqual(answers([4, 2, 5, 0, 2, 0, 6]), [1, 0])
        self.assertEqual(answers([5]), [1, -6])
        self.assertEqual(answers([6]), [17] + SQUARE)
        self.assertEqual(answers([7]), [3, 0, 1, 1])
        self.assertEqual(answers([8, 3]), [1, 16])
        self.assertEqual(answers([9, 3]), [1, 4])
        self.assertEqual(answers([10]), [7, 1, 1, 1, 2, 1, 1, 1])
        self.assertEqual(answers([11, 3]), [5, 0, 16, 1, 4, 1])
        self.assertEqual(answers([12]), [9, 4, 0, 0, 1, 0, 1, 1, 0, 1])

    def test_a_refusal_is_its_number_alone(self):
        for call, refusal in (
            ([1, 0, 0, 0], -1), ([1, 1, 1, 5, 0], -3), ([1, 1, 6] + [0] * 6 + [6] + [0] * 6, -4), ([2, 0, 0], -3),
            ([2, 4, 7, 0, 0, 1, 4, 0, 0, 0, 0], -1), ([2, 4, 0, 0, 0, 1, 4, 0, 0, 0, 0], -4), ([3, 9, 9, 0, 0], -3),
            ([3, 21, 0, 2, 1, 0, 2, 0, 0], -1), ([3, 0, 1, 2, 0, 0, 2, 0, 0], -4), ([4, 0, 1, 5], -3),
            ([4, 2, 21, 0, 2, 0, 0], -1), ([5], -6), ([8, 61], -1), ([9, 0], -1), ([9, 61], -1), ([11, 1000001], -1),
        ):
            self.assertEqual(answers(call), [1, refusal])
        self.assertEqual(answers([2, 4, 6, 1, 0, 6, 4, 0, 0, 1, 0, 10, 11, 3]), [1, 37, 1, -5, 1, -5])

    def test_several_calls(self):
        line = [3, 1, 0, 2, 1, 1, 2, 0, 0, 6, 4, 2, 5, 0, 2, 0, 6, 2, 4, 2, 0, 0, 3, 4, 0, 1, 0, 0, 5, 5, 5, 5, 6]
        triangle = [3, 0, 1, 0, 1, 1, 1, 0, 1, 0, 1, 1, 1]
        told = [1, 3, 13] + triangle + [1, 0, 1, 6, 1, 2, 1, 1, 1, 0, 1, -6, 17] + SQUARE
        self.assertEqual(answers(line), told)

    def test_40_calls(self):
        self.assertEqual(answers([6] * 40), ([17] + SQUARE) * 40)
        line = begin(1, [(0, 0), (4, 0), (0, 4)]) + (shift(1, 0) + steps((1, 1), (0, 2)) + UNDO) * 13
        self.assertEqual(answers(line), [1, 3] + [number for k in range(1, 14) for number in (1, 0, 1, 2, 1, k)])

    def test_several_calls_of_7_to_12(self):
        line = [2, 4, 2, 0, 0, 2, 4, 0, 0, 0, 0, 12, 11, 2, 10, 9, 3, 8, 12, 7, 4, 2, 1, 1, 2, 0, 0, 12, 8, 8, 5, 12, 5, 12]
        told = [1, 4, 3, 1, 0, 0, 5, 0, 4, 1, 0, 1, 11, 2, 1, 4, 1, 1, 1, 1, 1, 2, 1, 4, 1, 1, 1, 49, 3, 0, 1, 1]
        told += [1, 0, 3, 1, 2, 2, 1, 25, 1, 1, 3, 1, 0, 0, 1, 0, 9, 4, 0, 0, 1, 0, 1, 1, 0, 1]
        self.assertEqual(answers(line), told)

    def test_40_calls_of_each_that_changes_nothing(self):
        for call, told in (
            ([7], [3, 0, 1, 1]), ([8, 60], [1, 3721]), ([9, 60], [1, 3481]), ([10], [7, 1, 1, 1, 2, 1, 1, 1]),
            ([11, 10 ** 6], [5, 0, 1000002000001, 1, 999998000001, 1]), ([12], [9, 4, 0, 0, 1, 0, 1, 1, 0, 1]),
        ):
            self.assertEqual(answers(call * 40), told * 40)

    def test_no_point_in_it(self):
        line = begin(3, [(1, 1), (2, 1), (1, 2)]) + [12, 8, 0, 8, 1, 9, 1]
        self.assertEqual(answers(line), [1, 3, 1, 0, 1, 1, 1, 0, 1, 0])

    def test_numbers_of_calls_within_lists(self):
        self.assertEqual(answers(shift_lists([6, 5], [5, 6]) + [6])[:2], [1, 0])
        self.assertEqual(answers(shift_lists([6, 5, 4], [6]) + [5]), [1, -3, 1, -6])


class Large(unittest.TestCase):
    def test_lists_of_1024_numbers(self):
        long = [GREATEST] * 1024
        for call, refusal in (
            (begin_lists(1, long, long), -1), (begin_lists(6, long, long[1:]), -3), (begin_lists(0, long, long), -1),
            (steps_lists(long, long), -3), (cut_lists(GREATEST, GREATEST, long, long), -3), (shift_lists(long, long), -3),
            (shift_lists([1, 0], long), -3), (steps_lists(long, [0] * 4), -3),
        ):
            self.assertEqual(answers(call), [1, refusal])
            self.assertEqual(answers(call + CORNERS), [1, refusal, 17] + SQUARE)
        line = shift_lists(long, long) * 7 + CORNERS
        self.assertEqual(answers(line), [1, -3] * 7 + [17] + SQUARE)

    def test_the_greatest_numbers(self):
        self.assertEqual(answers(begin_lists(GREATEST, [], [])), [1, -1])
        self.assertEqual(answers(begin_lists(1, [GREATEST] * 6, [GREATEST] * 6)), [1, -4])
        self.assertEqual(answers(begin_lists(1, [GREATEST] * 6, [GREATEST] * 5 + [0])), [1, -1])
        self.assertEqual(answers(cut_lists(GREATEST, 0, [1, 0], [0, 0])), [1, -1])
        self.assertEqual(answers(cut_lists(1, 0, [GREATEST] * 2, [GREATEST - 1] * 2)), [1, 3])
        self.assertEqual(answers(steps_lists([GREATEST] * 4, [GREATEST - 1, GREATEST, GREATEST, GREATEST - 6])), [1, 6])
        self.assertEqual(answers(shift_lists([GREATEST] * 2, [GREATEST - 20, GREATEST])), [1, 0])
        self.assertEqual(answers(shift_lists([0, 0], [GREATEST, 0])), [1, -1])
        for call in (8, 9, 11):
            self.assertEqual(answers([call, GREATEST]), [1, -1])


class Nothing(unittest.TestCase):
    TOLD = CORNERS + AREA + count(5) + inside(60) + RULE + far(10 ** 6) + HULL
    REFUSED = count(61) + inside(0) + far(10 ** 6 + 1) + cut(21, 0, 1)
    LINE = begin(3, [(0, 0), (9, 1), (4, 8), (4, 4)]) + TOLD + cut(3, 1, 5) + shift(2, -2) + steps((1, 2), (0, 2)) + UNDO
    LINE += CORNERS + UNDO + steps((1, 1), (0, -2)) + TOLD + REFUSED + UNDO + UNDO + TOLD

    def test_what_is_handed_in_stays(self):
        line = list(self.LINE)
        answers(line)
        self.assertEqual(line, self.LINE)

    def test_what_is_handed_in_stays_meanwhile(self):
        class Watched(list):
            def refuse(self, *given):
                raise AssertionError("changed")

            __setitem__ = __delitem__ = __iadd__ = append = extend = insert = pop = remove = clear = refuse
            reverse = sort = refuse

        self.assertEqual(answers(Watched(self.LINE)), answers(self.LINE))

    def test_what_is_given_back_is_a_list_of_its_own(self):
        given = answers(self.LINE)
        was = list(given)
        given.clear()
        self.assertEqual(answers(self.LINE), was)

    def test_asked_twice_the_same_answers(self):
        self.assertEqual(answers(self.LINE), answers(self.LINE))

    def test_nothing_kept_from_one_time_to_the_next(self):
        first = answers(CORNERS + UNDO)
        answers(self.LINE)
        answers(shift(3, 3) + steps((2, 0), (0, 2)))
        self.assertEqual(answers(CORNERS + UNDO), first)

    def test_whole_numbers_in_a_list(self):
        given = answers(self.LINE)
        self.assertIs(type(given), list)
        self.assertEqual({type(number) for number in given}, {int})


if __name__ == "__main__":
    unittest.main()
