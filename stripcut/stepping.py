"""Stairs: what's upright made less wide, and higher, by slides."""

from stripcut.cuttings import Part, piece_of
from stripcut.points import origin
from stripcut.ratios import RATIO_LENGTH, half, is_less, minus, over, read_ratio, times
from stripcut.refusals import NotAsTold


def read_stairs(numbers):
    """The old width, the old height, and the width that's made."""
    # The count comes first, so that a long list isn't read for nothing.
    if len(numbers) != 3 * RATIO_LENGTH:
        raise NotAsTold("stairs are told by three fractions")
    sizes = [read_ratio(numbers[k:k + RATIO_LENGTH]) for k in range(0, len(numbers), RATIO_LENGTH)]
    if any([size[0] <= 0 for size in sizes]):
        raise NotAsTold("a width or the height isn't above 0")
    if not is_less(sizes[2], sizes[0]) or is_less(sizes[2], half(sizes[0])):
        raise NotAsTold("the width that's made isn't less than the old one, or is less than half of it")
    return sizes


def stairs_parts(a, b, c):
    """What's below the line as far as the new width c, what's below it farther, and what's above it."""
    # The line from 0, d to a, 0 falls by b on a way of c. So it comes down to b where c is left
    # to go, and at c it's as high as d is above b.
    zero = (0, 1)
    rest = minus(a, c)
    step = over(times(b, rest), c)
    # If c is half of a, two corners of the first part are one.
    first = piece_of([(zero, zero), (c, zero), (c, step), (rest, b), (zero, b)])
    second = piece_of([(c, zero), (a, zero), (c, step)])
    third = piece_of([(rest, b), (a, zero), (a, b)])
    return [
        Part(first, 0, origin()),
        Part(second, 0, (minus(zero, c), b)),
        Part(third, 0, (minus(zero, rest), step)),
    ]
