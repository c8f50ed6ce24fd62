"""A figure cut to its strip: slice by slice, each laid on the one before it."""

from stripcut.chaining import cutting_behind, slid_on
from stripcut.cuttings import check_count
from stripcut.halving import slice_halved, slice_made
from stripcut.points import opposite
from stripcut.ratios import is_less, minus, over, plus, times
from stripcut.refusals import NotAsTold, TooMuch
from stripcut.shearing import sheared
from stripcut.slicing import slices_of
from stripcut.widening import widened

WIDEST = 20
# How many times as wide as the strip a halved slice may be, and the other way round.
MOST_TIMES = 60


def read_width(w):
    if w < 1 or w > WIDEST:
        raise NotAsTold("a strip is 1 to 20 wide")
    return (w, 1)


def strip_parts(corners, w):
    """The parts that make of the figure with these corners its strip, w wide."""
    parts = []
    height = (0, 1)
    for told in slices_of(corners):
        four = slice_made(told)
        parts.extend(slid_on(slice_laid(told, four, w), ((0, 1), height)))
        check_count(parts)
        size = times(four.u[0], four.v[1])
        height = plus(height, over(size, w))
    return parts


def slice_laid(told, four, w):
    """The parts that make of the slice, by way of what has four sides, what's w wide with a corner at 0, 0."""
    wide = four.u[0]
    check_widths(wide, w)
    upright = cutting_behind(slice_halved(told), sheared(four, shear_upright(four)))
    at_corner = slid_on(upright, opposite(four.o))
    return cutting_behind(at_corner, widened(wide, four.v[1], w))


def check_widths(wide, w):
    most = (MOST_TIMES, 1)
    if is_less(times(w, most), wide) or is_less(times(wide, most), w):
        raise TooMuch("a slice is too wide for the strip, or the strip for it")


def shear_upright(four):
    """By how much it's sheared, u being level, so that v is upright."""
    return minus((0, 1), over(four.v[0], four.u[0]))
