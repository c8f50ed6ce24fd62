"""Fractions: pairs of whole numbers, the second 1 or more, the two with nothing in common."""

from stripcut.refusals import NotAsTold

RATIO_LENGTH = 2


def common_measure(a, b):
    """The greatest whole number that goes into both; 0 only if both are 0."""
    larger = abs(a)
    smaller = abs(b)
    while smaller != 0:
        rest = larger % smaller
        larger = smaller
        smaller = rest
    return larger


def is_ratio(top, bottom):
    return bottom >= 1 and common_measure(top, bottom) == 1


def read_ratio(numbers):
    if len(numbers) != RATIO_LENGTH or not is_ratio(numbers[0], numbers[1]):
        raise NotAsTold("a fraction is two numbers in lowest terms")
    return (numbers[0], numbers[1])


def ratio(top, bottom):
    """The fraction for top by bottom; bottom may be below 0, but not 0."""
    measure = common_measure(top, bottom)
    if bottom < 0:
        measure = -measure
    return (top // measure, bottom // measure)


def plus(a, b):
    return ratio(a[0] * b[1] + b[0] * a[1], a[1] * b[1])


def minus(a, b):
    return ratio(a[0] * b[1] - b[0] * a[1], a[1] * b[1])


def times(a, b):
    return ratio(a[0] * b[0], a[1] * b[1])


def over(a, b):
    """How often b, which isn't 0, goes into a."""
    return ratio(a[0] * b[1], a[1] * b[0])


def half(a):
    return ratio(a[0], 2 * a[1])


def is_less(a, b):
    return a[0] * b[1] < b[0] * a[1]
