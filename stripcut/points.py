"""Points: pairs of fractions, how far to the right and how far up."""

from stripcut.ratios import RATIO_LENGTH, half, is_less, minus, plus, read_ratio, times
from stripcut.refusals import NotAsTold

POINT_LENGTH = 4


def read_point(numbers):
    if len(numbers) != POINT_LENGTH:
        raise NotAsTold("a point is four numbers")
    return (read_ratio(numbers[:RATIO_LENGTH]), read_ratio(numbers[RATIO_LENGTH:]))


def read_points(numbers):
    return [read_point(numbers[k:k + POINT_LENGTH]) for k in range(0, len(numbers), POINT_LENGTH)]


def point_numbers(point):
    return [point[0][0], point[0][1], point[1][0], point[1][1]]


def origin():
    return ((0, 1), (0, 1))


def point_sum(a, b):
    return (plus(a[0], b[0]), plus(a[1], b[1]))


def opposite(a):
    return ((-a[0][0], a[0][1]), (-a[1][0], a[1][1]))


def way(a, b):
    """The way that leads from a to b, told as a point."""
    return (minus(b[0], a[0]), minus(b[1], a[1]))


def scaled(a, factor):
    return (times(a[0], factor), times(a[1], factor))


def cross(u, v):
    """Above 0 if the way v leads to the left of the way u, below 0 if to its right, else 0."""
    return minus(times(u[0], v[1]), times(u[1], v[0]))


def middle(a, b):
    both = point_sum(a, b)
    return (half(both[0]), half(both[1]))


def is_before(a, b):
    """Whether a lies farther left than b, or as far to the right and lower."""
    if a[0] == b[0]:
        return is_less(a[1], b[1])
    return is_less(a[0], b[0])
