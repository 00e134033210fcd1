"""Whole numbers, alone and in lists."""


def common_divisor(one, other):
    """The greatest number that divides both; 0 if both are 0."""
    greater = abs(one)
    lesser = abs(other)
    while lesser != 0:
        rest = greater % lesser
        greater = lesser
        lesser = rest
    return greater


def common_multiple(one, other):
    """The least number that both, each from 1 on, divide."""
    return one // common_divisor(one, other) * other


def lowest_terms(upper, lower):
    """The fraction's upper and lower number in lowest terms; lower is from 1 on."""
    shared = common_divisor(upper, lower)
    return [upper // shared, lower // shared]


def differences(plus, minus):
    """Each number of plus less that of minus; the lists are as long as each other."""
    return [more - less for more, less in zip(plus, minus)]


def any_beyond(numbers, bound):
    """Whether one of the numbers is farther from 0 than bound."""
    return any([abs(number) > bound for number in numbers])
