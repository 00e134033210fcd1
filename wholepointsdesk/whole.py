"""Whole numbers, alone and in lists."""


def common_divisor(one, other):
    """The greatest number that divides both; 0 if both are 0."""
    greater = abs(one)
    lesser = abs(other)
    while lesser != 0:
        rest = greater % lesser
        greater = lesser
        lesser = rest
    return greater


def common_multiple(one, other):
    """The least number that both, each from 1 on, divide."""
    return one // common_divisor(one, other) * other


def lowest_terms(upper, lower):
    """The fraction's upper and lower number in lowest terms; lower is from 1 on."""
    shared = common_divisor(upper, lower)
    return [upper // shared, lower // shared]


def crosswise(one, other):
    """The determinant of two pairs of numbers."""
    return one[0] * other[1] - one[1] * other[0]


def sum_of_floors(count, slope, start, lower):
    """For each k from 0 to count - 1 the greatest whole number not above (slope k + start) / lower; these together."""
    total = 0
    # A loop over k would be as long as the polygon is wide; this one is as short as that for the common divisor.
    while count > 0:
        total = total + slope // lower * (count * (count - 1) // 2) + start // lower * count
        slope = slope % lower
        rise = slope * count + start % lower
        # What is left are the whole points below a line less steep than 1; told sideways they are fewer rows, and
        # the line is steeper than 1 again.
        count = rise // lower
        start = rise % lower
        steeper = lower
        lower = slope
        slope = steeper
    return total


def differences(plus, minus):
    """Each number of plus less that of minus; the lists are as long as each other."""
    return [more - less for more, less in zip(plus, minus)]


def any_beyond(numbers, bound):
    """Whether one of the numbers is farther from 0 than bound."""
    return any([abs(number) > bound for number in numbers])
