"""The document's promises 1 to 5, each over many polygons and steps."""

import random
import unittest
from fractions import Fraction

from tests.helper import CORNERS, HULL, RULE, STATE, UNDO, as_places, as_points, ask, ask_each, begin, count, cut
from tests.helper import determinant, far, how_many_led_to, inside, last, lines_round, points_led_to, rule_said, shift
from tests.helper import steps, wrapped

UNIT = ((1, 0), (0, 1))
# Steps of each sort: those of the beginning, with a determinant below 0, of size 1 and of others, far and near.
SOME_STEPS = (
    UNIT, ((0, 1), (1, 0)), ((6, 5), (5, 4)), ((1, 1), (1, -1)), ((2, 0), (0, 2)), ((2, 1), (1, 3)), ((1, 3), (2, 1)),
    ((-3, 0), (1, 2)), ((6, 0), (0, -6)), ((6, 6), (-6, 6)), ((5, -6), (1, 4)), ((0, 2), (-1, 0)),
)


class Case:
    """Calls that lead to a polygon and steps, and what is known of them."""

    def __init__(self, calls, led):
        self.calls = calls
        self.led = led
        self.places = as_places(last(*calls, CORNERS))
        self.lines = lines_round(self.places)


def some_changes(source):
    changes = []
    for turn in range(source.randint(0, 3)):
        a, b, c = [source.randint(-7, 7) for number in range(3)]
        changes.append(source.choice((cut(a, b, c), shift(a, b))))
    return changes


def some_cases(seed, many, widest):
    """Polygons of fractions, some of them cut and moved, each with other steps."""
    source = random.Random(seed)
    cases = []
    while len(cases) < many:
        q = source.randint(1, 6)
        wide = source.choice((1, 2, widest)) * q
        places = [(source.randint(-wide, wide), source.randint(-wide, wide)) for turn in range(source.randint(3, 8))]
        led = SOME_STEPS[len(cases) % len(SOME_STEPS)]
        calls = [begin(q, places), steps(*led), *some_changes(source)]
        if ask(*calls)[0][0] > 0:
            cases.append(Case(calls, led))
    return cases


def ruled(cases):
    """Those of the cases that have a rule, and what it is."""
    known = [(case, last(*case.calls, RULE)) for case in cases]
    return [(case, rule) for case, rule in known if rule != [-5]]


class One(unittest.TestCase):
    """The rule holds for all sizes from 0 on."""

    def test_against_count_from_0_to_60(self):
        known = ruled(some_cases(1, 120, 4))
        self.assertGreater(len(known), 40)
        self.assertGreater(len({rule[0] for case, rule in known}), 10)
        for case, rule in known:
            told = ask_each(case.calls, [count(k) for k in range(61)])
            self.assertEqual(told, [[rule_said(rule, k)] for k in range(61)])

    def test_against_the_points_counted_beyond_60(self):
        known = [(case, rule) for case, rule in ruled(some_cases(2, 60, 2))]
        for case, rule in known[:20]:
            for size in (61, 2 * rule[0] + 1, 3 * rule[0] - 1, 97, 144):
                self.assertEqual(how_many_led_to(case.lines, case.led, size), rule_said(rule, size))

    def test_far_of_k_against_count_of_k(self):
        for case, rule in ruled(some_cases(3, 60, 12)):
            sizes = (0, 1, 2, 3, 13, rule[0], 59, 60)
            told = ask_each(case.calls, [far(k) for k in sizes])
            self.assertEqual([answer[:3] for answer in told], [[0, rule_said(rule, k), 1] for k in sizes])
            self.assertEqual([answer[1:2] for answer in told], ask_each(case.calls, [count(k) for k in sizes]))

    def test_far_of_large_sizes_against_the_rule(self):
        for case, rule in ruled(some_cases(4, 60, 12)):
            sizes = (61, 1000, 10 ** 5 + 3, 10 ** 6 - 1, 10 ** 6)
            told = ask_each(case.calls, [far(k) for k in sizes])
            self.assertEqual(told, [[0, rule_said(rule, k), 1, rule_said(rule, -k), 1] for k in sizes])

    def test_its_first_number_is_the_area_by_the_steps(self):
        for case, rule in ruled(some_cases(5, 60, 12)):
            area = last(*case.calls, [7])
            self.assertEqual(Fraction(*rule[1:3]), Fraction(*area[1:]) / abs(determinant(*case.led)))


class Two(unittest.TestCase):
    """Of -k it says how many points led to are within the polygon k times as large."""

    def test_the_rule_against_inside_from_1_to_60(self):
        for case, rule in ruled(some_cases(6, 120, 4)):
            told = ask_each(case.calls, [inside(k) for k in range(1, 61)])
            self.assertEqual(told, [[rule_said(rule, -k)] for k in range(1, 61)])

    def test_the_rule_against_the_points_counted_beyond_60(self):
        for case, rule in ruled(some_cases(7, 60, 2))[:20]:
            for size in (61, 2 * rule[0] + 1, 3 * rule[0] - 1, 97, 144):
                self.assertEqual(how_many_led_to(case.lines, case.led, size, True), rule_said(rule, -size))

    def test_far_of_minus_k_against_inside_of_k(self):
        for case, rule in ruled(some_cases(8, 60, 12)):
            sizes = (1, 2, 3, 13, rule[0], 59, 60)
            told = ask_each(case.calls, [far(k) for k in sizes])
            self.assertEqual([answer[3:4] for answer in told], ask_each(case.calls, [inside(k) for k in sizes]))
            self.assertEqual([answer[4:] for answer in told], [[1]] * len(sizes))


class Counted(unittest.TestCase):
    """Count and inside, whether or not there is a rule."""

    def test_against_the_points_one_by_one(self):
        for case in some_cases(9, 60, 6):
            told = ask_each(case.calls, [count(1), inside(1)])
            known = [points_led_to(case.lines, case.led, within) for within in (False, True)]
            self.assertEqual(told, [[len(points)] for points in known])

    def test_against_the_points_column_by_column(self):
        for case in some_cases(10, 60, 3):
            sizes = (1, 2, 5, 17, 60)
            told = ask_each(case.calls, [count(k) for k in sizes] + [inside(k) for k in sizes])
            known = [how_many_led_to(case.lines, case.led, k, within) for within in (False, True) for k in sizes]
            self.assertEqual(told, [[many] for many in known])

    def test_the_two_second_ways_agree(self):
        for case in some_cases(11, 24, 6):
            for within in (False, True):
                many = how_many_led_to(case.lines, case.led, 1, within)
                self.assertEqual(len(points_led_to(case.lines, case.led, within)), many)


class Three(unittest.TestCase):
    """The hull has all points led to in the polygon; its corners are some of them."""

    def test_against_the_points_one_by_one(self):
        seen = {}
        for case in some_cases(12, 160, 6):
            points = points_led_to(case.lines, case.led)
            told = last(*case.calls, HULL)
            hull = as_points(told)
            self.assertEqual(told[0], len(hull))
            self.assertEqual(hull, wrapped(points))
            self.assertLessEqual(set(hull), set(points))
            self.assertEqual(hull[:1], sorted(points)[:1])
            if len(hull) > 2:
                self.in_it(hull, points)
            elif points:
                self.assertEqual(hull, sorted({min(points), max(points)}))
            seen[min(len(hull), 5)] = True
        self.assertEqual(sorted(seen), [0, 1, 2, 3, 4, 5])

    def in_it(self, hull, points):
        """Each edge has all points on its left or in its line, but of the corners its own two alone in its line."""
        for k, corner in enumerate(hull):
            ahead = (corner[0] - hull[k - 1][0], corner[1] - hull[k - 1][1])
            turns = {point: determinant(ahead, (point[0] - corner[0], point[1] - corner[1])) for point in points}
            self.assertGreaterEqual(min(turns.values()), 0)
            self.assertEqual(sum(turns[point] == 0 for point in hull), 2)


class Four(unittest.TestCase):
    """Cut, it has just the points it had on this side. Moved by where the steps lead, count 1 and inside 1 stay."""

    def test_cut(self):
        source = random.Random(13)
        done = 0
        for case in some_cases(14, 150, 6):
            a, b, c = [source.randint(-9, 9) for number in range(3)]
            told = ask(*case.calls, cut(a, b, c), count(1), HULL)[-3:]
            if told[0][0] > 0:
                had = [point for point in points_led_to(case.lines, case.led) if a * point[0] + b * point[1] <= c]
                self.assertEqual(told[1], [len(had)])
                self.assertEqual(as_points(told[2]), wrapped(had))
                done += 1
        self.assertGreater(done, 50)

    def test_moved_by_where_the_steps_lead(self):
        source = random.Random(15)
        done = 0
        for case in some_cases(16, 150, 6):
            often = [source.randint(-3, 3) for step in case.led]
            x, y = [often[0] * case.led[0][k] + often[1] * case.led[1][k] for k in (0, 1)]
            if abs(x) > 20 or abs(y) > 20:
                continue
            asked = [count(1), inside(1), HULL]
            told = ask(*case.calls, *asked, shift(x, y), *asked)[-7:]
            self.assertEqual(told[3], [0])
            self.assertEqual(told[4:6], told[:2])
            self.assertEqual(as_points(told[6]), [(one + x, other + y) for one, other in as_points(told[2])])
            done += 1
        self.assertGreater(done, 50)


class Five(unittest.TestCase):
    """Behind undo it's as it was."""

    def test_behind_each_change(self):
        source = random.Random(17)
        done = {}
        for case in some_cases(18, 100, 6):
            a, b, c = [source.randint(-6, 6) for number in range(3)]
            changes = (cut(a, b, c), shift(a, b), steps((a, b), (c, 1)))
            for change in changes:
                told = ask(*case.calls, *STATE, change, UNDO, *STATE)[len(case.calls):]
                if told[len(STATE)][0] >= 0:
                    self.assertEqual(told[len(STATE) + 2:], told[:len(STATE)])
                    done[change[0]] = done.get(change[0], 0) + 1
        self.assertEqual(sorted(done), [2, 3, 4])
        self.assertGreater(min(done.values()), 40)

    def test_one_after_another_backwards(self):
        source = random.Random(19)
        for case in some_cases(20, 40, 6):
            changes = some_changes(source) + [steps(*source.choice(SOME_STEPS))] + some_changes(source)
            was = [ask(*case.calls, *changes[:many], *STATE)[-len(STATE):] for many in range(len(changes) + 1)]
            taken = [change for k, change in enumerate(changes) if last(*case.calls, *changes[:k + 1])[0] >= 0]
            states = [was[0]]
            for many in range(1, len(taken) + 1):
                states.append(ask(*case.calls, *taken[:many], *STATE)[-len(STATE):])
            self.assertEqual(states[-1], was[-1])
            for back in range(len(taken) + 1):
                told = ask(*case.calls, *changes, *[UNDO] * back, *STATE)[-len(STATE):]
                self.assertEqual(told, states[len(taken) - back])


if __name__ == "__main__":
    unittest.main()
