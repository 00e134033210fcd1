"""Many lines of calls, each answered by the package and by the helper's second way."""

import random
import unittest

from tests import helper


def some_places(source, q):
    far = source.choice((0, 1, 2 * q, 5 * q, 12 * q, 12 * q + 1))
    count = source.choice((2, 3, 3, 4, 5, 6, 7, 8, 9))
    return [(source.randint(-far, far), source.randint(-far, far)) for turn in range(count)]


CHANGES = ("begin", "steps", "cut", "cut", "cut", "cut", "shift", "shift", "undo", "undo", "corners")
ALL = (
    "begin", "steps", "steps", "cut", "cut", "shift", "undo", "undo", "corners", "area", "count", "count", "inside",
    "inside", "rule", "far", "hull", "hull",
)


def some_question(source, kind):
    """A call that changes nothing, and what asks the model the same."""
    if kind in ("count", "inside"):
        k = source.choice((0, 1, 2, 3, 7, 12, 60, 61, 10 ** 18))
        if kind == "count":
            return helper.count(k), lambda model: model.count(k)
        return helper.inside(k), lambda model: model.inside(k)
    if kind == "far":
        k = source.choice((0, 1, 5, 36, 61, 99999, 10 ** 6, 10 ** 6 + 1, 10 ** 19))
        return helper.far(k), lambda model: model.far(k)
    if kind == "area":
        return helper.AREA, lambda model: model.area()
    if kind == "rule":
        return helper.RULE, lambda model: model.rule()
    if kind == "hull":
        return helper.HULL, lambda model: model.hull()
    return helper.CORNERS, lambda model: model.corners()


def some_call(source, kinds):
    """One call in the form it is handed in, and what asks the model the same."""
    kind = source.choice(kinds)
    added = source.choice((0, 0, 7, 10 ** 18))
    if kind == "begin":
        q = source.choice((0, 1, 2, 3, 4, 5, 6, 6, 7))
        places = some_places(source, q)
        return helper.begin(q, places, added), lambda model: model.begin(q, places)
    if kind == "steps":
        first, second = [(source.randint(-6, 6), source.randint(-6, 7)) for turn in range(2)]
        return helper.steps(first, second, added), lambda model: model.steps(first, second)
    if kind == "cut":
        far = source.choice((1, 2, 4, 20, 21))
        a, b, c = [source.randint(-far, far) for turn in range(3)]
        c = source.choice((c, 20 if c > 0 else c))
        return helper.cut(a, b, c, added), lambda model: model.cut(a, b, c)
    if kind == "shift":
        far = source.choice((1, 3, 20, 21))
        x, y = [source.randint(-far, far) for turn in range(2)]
        return helper.shift(x, y, added), lambda model: model.shift(x, y)
    if kind == "undo":
        return helper.UNDO, lambda model: model.undo()
    return some_question(source, kind)


class Lines(unittest.TestCase):
    def test_as_the_second_way_says(self):
        source = random.Random(20)
        seen = {}
        for turn in range(150):
            calls = [some_call(source, CHANGES) for call in range(source.randint(3, 19))]
            line = [handed for call in calls for handed in (call[0], helper.CORNERS)]
            model = helper.Model()
            told = [answer for call in calls for answer in (call[1](model), model.corners())]
            self.assertEqual(helper.ask(*line), told)
            for call, answer in zip(line, told):
                seen[call[0], min(answer[0], 1)] = True
        for kind in ((1, -1), (1, -4), (2, -1), (2, -4), (3, -1), (3, -4), (3, -5), (4, -1), (5, -6)):
            self.assertIn(kind, seen)

    def test_lines_of_40_calls_of_all_kinds(self):
        source = random.Random(21)
        seen = {}
        for turn in range(40):
            calls = [some_call(source, ALL) for call in range(40)]
            line = [handed for handed, asks in calls]
            model = helper.Model()
            told = [asks(model) for handed, asks in calls]
            self.assertEqual(helper.ask(*line), told)
            for call, answer in zip(line, told):
                seen[call[0], min(answer[0], 0)] = True
        for kind in range(1, 13):
            self.assertIn((kind, 0), seen)
        for kind in (
            (1, -1), (1, -4), (2, -1), (2, -4), (3, -1), (3, -4), (4, -1), (5, -6), (8, -1), (9, -1), (10, -5), (11, -1),
            (11, -5),
        ):
            self.assertIn(kind, seen)


if __name__ == "__main__":
    unittest.main()
