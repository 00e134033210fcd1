"""What the tests share: calls in the form they are handed in, answers told apart, and a second way to work them out.

The second way knows a polygon by the lines that bound it, and finds its corners where two of these lines meet;
the package goes by the corners alone.
"""

from fractions import Fraction
from itertools import combinations
from math import lcm

from wholepointsdesk.polygon import answers

GREATEST = 2 ** 64 - 1


def two_lists(numbers, added=0):
    """Numbers that may be below 0 as plus and minus, both greater by added."""
    plus = [max(number, 0) + added for number in numbers]
    minus = [max(-number, 0) + added for number in numbers]
    return plus, minus


def with_lists(head, plus, minus):
    return head + [len(plus)] + plus + [len(minus)] + minus


def begin_lists(q, plus, minus):
    return with_lists([1, q], plus, minus)


def begin(q, places, added=0):
    plus, minus = two_lists([number for place in places for number in place], added)
    return begin_lists(q, plus, minus)


def steps_lists(plus, minus):
    return with_lists([2], plus, minus)


def steps(first, second, added=0):
    return steps_lists(*two_lists([*first, *second], added))


def cut_lists(c_plus, c_minus, plus, minus):
    return with_lists([3, c_plus, c_minus], plus, minus)


def cut(a, b, c, added=0):
    return cut_lists(max(c, 0), max(-c, 0), *two_lists([a, b], added))


def shift_lists(plus, minus):
    return with_lists([4], plus, minus)


def shift(x, y, added=0):
    return shift_lists(*two_lists([x, y], added))


UNDO = [5]
CORNERS = [6]


def ask(*calls):
    """The answers to these calls in one line, each as a list of its numbers."""
    line = [number for call in calls for number in call]
    given = answers(line)
    told = []
    at = 0
    while at < len(given):
        told.append(given[at + 1:at + 1 + given[at]])
        at += 1 + given[at]
    if at != len(given) or len(told) != len(calls):
        raise AssertionError(f"{len(calls)} calls, but answers {given}")
    return told


def last(*calls):
    """What the last of these calls answers."""
    return ask(*calls)[-1]


def as_answer(corners):
    """Places as the call corners answers them."""
    told = [len(corners)]
    for place in corners:
        for number in place:
            told += [Fraction(number).numerator, Fraction(number).denominator]
    return told


def as_places(answer):
    """What the call corners answers, as places."""
    numbers = [Fraction(answer[k], answer[k + 1]) for k in range(1, len(answer), 2)]
    return [(numbers[k], numbers[k + 1]) for k in range(0, len(numbers), 2)]


def lines_round(places):
    """Lines a, b, c with a x + b y no more than c of all the places, each through two of them."""
    lines = []
    for one, other in combinations(sorted(set(places)), 2):
        a, b = other[1] - one[1], one[0] - other[0]
        c = a * one[0] + b * one[1]
        excesses = [a * x + b * y - c for x, y in places]
        if max(excesses) <= 0:
            lines.append((a, b, c))
        if min(excesses) >= 0:
            lines.append((-a, -b, -c))
    return lines


def meeting(one, other):
    """Where two lines meet; None if they have the same direction."""
    determinant = one[0] * other[1] - one[1] * other[0]
    if determinant == 0:
        return None
    x = Fraction(one[2] * other[1] - one[1] * other[2]) / determinant
    y = Fraction(one[0] * other[2] - one[2] * other[0]) / determinant
    return (x, y)


def in_lines(lines, place):
    return all(a * place[0] + b * place[1] <= c for a, b, c in lines)


def corners_in_lines(lines):
    """The corners of what the lines bound, in the document's order."""
    met = {meeting(one, other) for one, other in combinations(lines, 2)} - {None}
    corners = sorted(place for place in met if in_lines(lines, place))
    first = corners[:1]

    def slope(place):
        right, up = place[0] - first[0][0], place[1] - first[0][1]
        return (1, 0) if right == 0 else (0, up / right)

    return first + sorted(corners[1:], key=slope)


class Model:
    """The document's calls 1 to 6, worked out the second way."""

    def __init__(self):
        self.lines = [(-1, 0, 0), (0, -1, 0), (1, 0, 1), (0, 1, 1)]
        self.kept = []

    def keep(self):
        self.kept = (self.kept + [self.lines])[-20:]

    def begin(self, q, places):
        if q not in range(1, 7):
            return [-1]
        places = [(Fraction(x, q), Fraction(y, q)) for x, y in places]
        if not 3 <= len(places) <= 8 or any(abs(number) > 12 for place in places for number in place):
            return [-1]
        lines = lines_round(places)
        corners = corners_in_lines(lines)
        if len(corners) < 3:
            return [-4]
        self.lines = lines
        self.kept = []
        return [len(corners)]

    def steps(self, first, second):
        if any(abs(number) > 6 for number in [*first, *second]):
            return [-1]
        determinant = first[0] * second[1] - first[1] * second[0]
        if determinant == 0:
            return [-4]
        self.keep()
        return [abs(determinant)]

    def cut(self, a, b, c):
        if any(abs(number) > 20 for number in (a, b, c)):
            return [-1]
        if a == 0 and b == 0 and c < 0:
            return [-4]
        lines = self.lines + ([(a, b, c)] if (a, b) != (0, 0) else [])
        corners = corners_in_lines(lines)
        if len(corners) < 3:
            return [-4]
        if lcm(*[number.denominator for place in corners for number in place]) > 1000:
            return [-5]
        self.keep()
        self.lines = lines
        return [len(corners)]

    def shift(self, x, y):
        lines = [(a, b, c + a * x + b * y) for a, b, c in self.lines]
        numbers = [number for place in corners_in_lines(lines) for number in place]
        if abs(x) > 20 or abs(y) > 20 or max(abs(number) for number in numbers) > 100:
            return [-1]
        self.keep()
        self.lines = lines
        return [0]

    def undo(self):
        if not self.kept:
            return [-6]
        self.lines = self.kept.pop()
        return [len(self.kept)]

    def corners(self):
        return as_answer(corners_in_lines(self.lines))
