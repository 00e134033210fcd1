"""What the tests share: calls in the form they are handed in, answers told apart, and a second way to work them out.

The second way knows a polygon by the lines that bound it, and finds its corners where two of these lines meet;
the package goes by the corners alone. It finds the points led to in their own x and y, each by itself or column by
column; the package goes by the polygon told by the steps.
"""

from fractions import Fraction
from itertools import combinations
from math import ceil, floor, lcm

from wholepointsdesk.polygon import answers

GREATEST = 2 ** 64 - 1


def two_lists(numbers, added=0):
    """Numbers that may be below 0 as plus and minus, both greater by added."""
    plus = [max(number, 0) + added for number in numbers]
    minus = [max(-number, 0) + added for number in numbers]
    return plus, minus


def with_lists(head, plus, minus):
    return head + [len(plus)] + plus + [len(minus)] + minus


def begin_lists(q, plus, minus):
    return with_lists([1, q], plus, minus)


def begin(q, places, added=0):
    plus, minus = two_lists([number for place in places for number in place], added)
    return begin_lists(q, plus, minus)


def steps_lists(plus, minus):
    return with_lists([2], plus, minus)


def steps(first, second, added=0):
    return steps_lists(*two_lists([*first, *second], added))


def cut_lists(c_plus, c_minus, plus, minus):
    return with_lists([3, c_plus, c_minus], plus, minus)


def cut(a, b, c, added=0):
    return cut_lists(max(c, 0), max(-c, 0), *two_lists([a, b], added))


def shift_lists(plus, minus):
    return with_lists([4], plus, minus)


def shift(x, y, added=0):
    return shift_lists(*two_lists([x, y], added))


UNDO = [5]
CORNERS = [6]
AREA = [7]
RULE = [10]
HULL = [12]


def count(k):
    return [8, k]


def inside(k):
    return [9, k]


def far(k):
    return [11, k]


# All that can be asked of a polygon and its steps, each kind of call that changes nothing.
STATE = [CORNERS, AREA, count(0), count(1), count(7), inside(1), inside(7), RULE, far(0), far(1), far(1001), HULL]


def ask(*calls):
    """The answers to these calls in one line, each as a list of its numbers."""
    line = [number for call in calls for number in call]
    given = answers(line)
    told = []
    at = 0
    while at < len(given):
        told.append(given[at + 1:at + 1 + given[at]])
        at += 1 + given[at]
    if at != len(given) or len(told) != len(calls):
        raise AssertionError(f"{len(calls)} calls, but answers {given}")
    return told


def last(*calls):
    """What the last of these calls answers."""
    return ask(*calls)[-1]


def ask_each(before, asked):
    """What is answered to each call asked behind those before, in lines of at most 40 calls."""
    told = []
    room = 40 - len(before)
    for at in range(0, len(asked), room):
        told += ask(*before, *asked[at:at + room])[len(before):]
    return told


def fraction(upper, lower):
    """A fraction as it is answered; one that isn't in lowest terms is none."""
    read = Fraction(upper, lower)
    if (read.numerator, read.denominator) != (upper, lower):
        raise AssertionError(f"{upper}, {lower} is no fraction in lowest terms")
    return read


def fractions(numbers):
    """Numbers two by two as fractions."""
    return [fraction(numbers[k], numbers[k + 1]) for k in range(0, len(numbers), 2)]


def flat(numbers):
    """Fractions as they are answered."""
    return [part for number in numbers for part in Fraction(number).as_integer_ratio()]


def rule_said(rule, size):
    """What the rule, as the call answers it, says of a size, perhaps one below 0."""
    read = fractions(rule[1:])
    rest = size % rule[0]
    return read[0] * size * size + read[1 + 2 * rest] * size + read[2 + 2 * rest]


def as_points(answer):
    """What the call hull answers, as points."""
    return [(answer[k], answer[k + 1]) for k in range(1, len(answer), 2)]


def as_answer(corners):
    """Places as the call corners answers them."""
    told = [len(corners)]
    for place in corners:
        for number in place:
            told += [Fraction(number).numerator, Fraction(number).denominator]
    return told


def as_places(answer):
    """What the call corners answers, as places."""
    numbers = [Fraction(answer[k], answer[k + 1]) for k in range(1, len(answer), 2)]
    return [(numbers[k], numbers[k + 1]) for k in range(0, len(numbers), 2)]


def lines_round(places):
    """Lines a, b, c with a x + b y no more than c of all the places, each through two of them."""
    lines = []
    for one, other in combinations(sorted(set(places)), 2):
        a, b = other[1] - one[1], one[0] - other[0]
        c = a * one[0] + b * one[1]
        excesses = [a * x + b * y - c for x, y in places]
        if max(excesses) <= 0:
            lines.append((a, b, c))
        if min(excesses) >= 0:
            lines.append((-a, -b, -c))
    return lines


def meeting(one, other):
    """Where two lines meet; None if they have the same direction."""
    determinant = one[0] * other[1] - one[1] * other[0]
    if determinant == 0:
        return None
    x = Fraction(one[2] * other[1] - one[1] * other[2]) / determinant
    y = Fraction(one[0] * other[2] - one[2] * other[0]) / determinant
    return (x, y)


def in_lines(lines, place):
    return all(a * place[0] + b * place[1] <= c for a, b, c in lines)


def corners_in_lines(lines):
    """The corners of what the lines bound, in the document's order."""
    met = {meeting(one, other) for one, other in combinations(lines, 2)} - {None}
    corners = sorted(place for place in met if in_lines(lines, place))
    first = corners[:1]

    def slope(place):
        right, up = place[0] - first[0][0], place[1] - first[0][1]
        return (1, 0) if right == 0 else (0, up / right)

    return first + sorted(corners[1:], key=slope)


def determinant(first, second):
    return first[0] * second[1] - first[1] * second[0]


def by_steps(steps, place):
    """How often each step leads to the place."""
    size = determinant(*steps)
    return (Fraction(determinant(place, steps[1])) / size, Fraction(determinant(steps[0], place)) / size)


def is_led_to(steps, place):
    return all(number.denominator == 1 for number in by_steps(steps, place))


def whole_lines(lines):
    """The same lines in whole numbers."""
    made = []
    for line in lines:
        shared = lcm(*[Fraction(number).denominator for number in line])
        made.append(tuple(int(number * shared) for number in line))
    return made


def points_led_to(lines, steps, within=False):
    """The points led to in what the lines bound, or within it, tried one by one."""
    corners = corners_in_lines(lines)
    lines = whole_lines(lines)
    found = []
    for x in range(ceil(min(x for x, y in corners)), floor(max(x for x, y in corners)) + 1):
        for y in range(ceil(min(y for x, y in corners)), floor(max(y for x, y in corners)) + 1):
            excess = max(a * x + b * y - c for a, b, c in lines)
            if (excess < 0 or excess == 0 and not within) and is_led_to(steps, (x, y)):
                found.append((x, y))
    return found


def column_between(lines, x, size, within):
    """The least and the greatest y of column x in what the lines bound, size times as large; None if there is none."""
    less = 1 if within else 0
    lowest, highest = [], []
    for a, b, c in lines:
        left = c * size - a * x - less
        if b == 0 and left < 0:
            return None
        if b > 0:
            highest.append(left // b)
        if b < 0:
            lowest.append(-(left // -b))
    return (max(lowest), min(highest))


def how_many_led_to(lines, steps, size, within=False):
    """How many points led to are in what the lines bound, size times as large, or within it, column by column."""
    corners = corners_in_lines(lines)
    lines = whole_lines(lines)
    period = abs(determinant(*steps))
    led = [[y for y in range(period) if is_led_to(steps, (x, y))] for x in range(period)]
    total = 0
    for x in range(ceil(size * min(x for x, y in corners)), floor(size * max(x for x, y in corners)) + 1):
        ends = column_between(lines, x, size, within)
        if ends is not None and ends[0] <= ends[1]:
            total += sum((ends[1] - rest) // period - (ends[0] - 1 - rest) // period for rest in led[x % period])
    return total


def wrapped(points):
    """The corners of the points' hull in the document's order, gone round from each to the next."""
    way = [min(points)] if points else []
    while len(points) > 1:
        here = way[-1]
        best = min(point for point in points if point != here)
        for point in points:
            ahead = (point[0] - here[0], point[1] - here[1])
            known = (best[0] - here[0], best[1] - here[1])
            turn = determinant(known, ahead)
            if turn < 0 or turn == 0 and ahead != (0, 0) and max(map(abs, ahead)) > max(map(abs, known)):
                best = point
        if best == way[0]:
            break
        way.append(best)
    return way


class Model:
    """The document's calls, worked out the second way."""

    def __init__(self):
        self.lines = [(-1, 0, 0), (0, -1, 0), (1, 0, 1), (0, 1, 1)]
        self.led = ((1, 0), (0, 1))
        self.kept = []

    def keep(self):
        self.kept = (self.kept + [(self.lines, self.led)])[-20:]

    def begin(self, q, places):
        if q not in range(1, 7):
            return [-1]
        places = [(Fraction(x, q), Fraction(y, q)) for x, y in places]
        if not 3 <= len(places) <= 8 or any(abs(number) > 12 for place in places for number in place):
            return [-1]
        lines = lines_round(places)
        corners = corners_in_lines(lines)
        if len(corners) < 3:
            return [-4]
        self.lines = lines
        self.led = ((1, 0), (0, 1))
        self.kept = []
        return [len(corners)]

    def steps(self, first, second):
        if any(abs(number) > 6 for number in [*first, *second]):
            return [-1]
        size = abs(determinant(first, second))
        if size == 0:
            return [-4]
        self.keep()
        self.led = (first, second)
        return [size]

    def cut(self, a, b, c):
        if any(abs(number) > 20 for number in (a, b, c)):
            return [-1]
        if a == 0 and b == 0 and c < 0:
            return [-4]
        lines = self.lines + ([(a, b, c)] if (a, b) != (0, 0) else [])
        corners = corners_in_lines(lines)
        if len(corners) < 3:
            return [-4]
        if lcm(*[number.denominator for place in corners for number in place]) > 1000:
            return [-5]
        self.keep()
        self.lines = lines
        return [len(corners)]

    def shift(self, x, y):
        lines = [(a, b, c + a * x + b * y) for a, b, c in self.lines]
        numbers = [number for place in corners_in_lines(lines) for number in place]
        if abs(x) > 20 or abs(y) > 20 or max(abs(number) for number in numbers) > 100:
            return [-1]
        self.keep()
        self.lines = lines
        return [0]

    def undo(self):
        if not self.kept:
            return [-6]
        self.lines, self.led = self.kept.pop()
        return [len(self.kept)]

    def corners(self):
        return as_answer(corners_in_lines(self.lines))

    def own_area(self):
        """The area as that of triangles from the first corner."""
        first, *others = [(x, y) for x, y in corners_in_lines(self.lines)]
        sides = [(x - first[0], y - first[1]) for x, y in others]
        return Fraction(sum(determinant(one, other) for one, other in zip(sides, sides[1:]))) / 2

    def area(self):
        return [0] + flat([self.own_area()])

    def how_many(self, k, within=False):
        return how_many_led_to(self.lines, self.led, k, within)

    def count(self, k):
        return [-1] if k > 60 else [self.how_many(k)]

    def inside(self, k):
        return [-1] if k not in range(1, 61) else [self.how_many(k, True)]

    def period(self):
        told = [by_steps(self.led, place) for place in corners_in_lines(self.lines)]
        return lcm(*[number.denominator for place in told for number in place])

    def numbers_of(self, rest):
        """A, b and c of the sizes that leave rest; of -k the rule says how many are within, so two sizes up to D do."""
        period = self.period()
        area = self.own_area() / abs(determinant(*self.led))
        in_it, within, other = self.how_many(rest), self.how_many(period - rest, True), period - rest
        b = (in_it - within - area * (rest * rest - other * other)) / period
        return area, b, in_it - area * rest * rest - b * rest

    def rule(self):
        period = self.period()
        if period > 36:
            return [-5]
        told = [self.numbers_of(rest) for rest in range(period)]
        return [period] + flat([told[0][0]] + [number for area, b, c in told for number in (b, c)])

    def far(self, k):
        if k > 10 ** 6:
            return [-1]
        if self.period() > 36:
            return [-5]
        said = []
        for size in (k, -k):
            area, b, c = self.numbers_of(size % self.period())
            said.append(area * size * size + b * size + c)
        return [0] + flat(said)

    def hull(self):
        corners = wrapped(points_led_to(self.lines, self.led))
        return [len(corners)] + [number for point in corners for number in point]
