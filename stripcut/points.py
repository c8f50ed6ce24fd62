"""Points: pairs of fractions, how far to the right and how far up."""

from stripcut.ratios import half, is_less, is_ratio, plus
from stripcut.refusals import NotAsTold

POINT_LENGTH = 4


def read_point(numbers):
    if len(numbers) != POINT_LENGTH:
        raise NotAsTold("a point is four numbers")
    if not is_ratio(numbers[0], numbers[1]) or not is_ratio(numbers[2], numbers[3]):
        raise NotAsTold("a point is two fractions in lowest terms")
    return ((numbers[0], numbers[1]), (numbers[2], numbers[3]))


def read_points(numbers):
    return [read_point(numbers[k:k + POINT_LENGTH]) for k in range(0, len(numbers), POINT_LENGTH)]


def point_numbers(point):
    return [point[0][0], point[0][1], point[1][0], point[1][1]]


def origin():
    return ((0, 1), (0, 1))


def point_sum(a, b):
    return (plus(a[0], b[0]), plus(a[1], b[1]))


def middle(a, b):
    both = point_sum(a, b)
    return (half(both[0]), half(both[1]))


def is_before(a, b):
    """Whether a lies farther left than b, or as far to the right and lower."""
    if a[0] == b[0]:
        return is_less(a[1], b[1])
    return is_less(a[0], b[0])
