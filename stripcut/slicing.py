"""Slices: what lies between two heights and two sides."""

from stripcut.figures import sides_of
from stripcut.points import POINT_LENGTH, point_numbers, read_points
from stripcut.ratios import is_less, plus, ratio
from stripcut.refusals import NotAsTold


class Slice:
    def __init__(self, left_below, right_below, right_above, left_above):
        self.left_below = left_below
        self.right_below = right_below
        self.right_above = right_above
        self.left_above = left_above


def read_slice(numbers):
    # The count comes first, so that a long list isn't read for nothing.
    if len(numbers) != 4 * POINT_LENGTH:
        raise NotAsTold("a slice is four points")
    points = read_points(numbers)
    told = Slice(points[0], points[1], points[2], points[3])
    if not is_level(told) or not is_in_order(told) or is_without_size(told):
        raise NotAsTold("the four points don't bound a slice")
    return told


def is_level(told):
    return told.left_below[1] == told.right_below[1] and told.left_above[1] == told.right_above[1]


def is_in_order(told):
    return (
        is_less(told.left_below[1], told.left_above[1])
        and not is_less(told.right_below[0], told.left_below[0])
        and not is_less(told.right_above[0], told.left_above[0])
    )


def is_without_size(told):
    return told.left_below == told.right_below and told.left_above == told.right_above


def slice_numbers(told):
    below = point_numbers(told.left_below) + point_numbers(told.right_below)
    above = point_numbers(told.right_above) + point_numbers(told.left_above)
    return below + above


def slices_of(corners):
    """The slices of the figure with these corners, from below on, then from the left on."""
    sides = sides_of(corners)
    heights = sorted(set([corner[1] for corner in corners]))
    found = []
    for low, high in zip(heights, heights[1:]):
        found.extend(slices_between(sides, low, high))
    return found


def slices_between(sides, low, high):
    reaching = [side for side in sides if reaches_through(side, low, high)]
    bounds = from_left_on([(right_at(side, low), right_at(side, high)) for side in reaching])
    return [bounded_slice(bounds[k], bounds[k + 1], low, high) for k in range(0, len(bounds), 2)]


def reaches_through(side, low, high):
    return min(side[0][1], side[1][1]) <= low and max(side[0][1], side[1][1]) >= high


def right_at(side, height):
    """How far to the right the side, which isn't level, lies at a height."""
    start = side[0]
    rise = side[1][1] - start[1]
    return ratio(start[0] * rise + (side[1][0] - start[0]) * (height - start[1]), rise)


def from_left_on(bounds):
    # At the low or the high height two sides may meet; at half height none do, and twice
    # how far right a side lies there is the sum of the two. Brought to one common bottom,
    # these sums stand in the order of their tops.
    common = 1
    for bound in bounds:
        common = common * plus(bound[0], bound[1])[1]
    return sorted(bounds, key=lambda bound: top_over(plus(bound[0], bound[1]), common))


def top_over(fraction, common):
    """The fraction's top when its bottom is brought to common, into which it goes."""
    return fraction[0] * (common // fraction[1])


def bounded_slice(left, right, low, high):
    below = (low, 1)
    above = (high, 1)
    return Slice((left[0], below), (right[0], below), (right[1], above), (left[1], above))
