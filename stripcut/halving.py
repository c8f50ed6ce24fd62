"""A slice halved: how it becomes what has four sides."""

from stripcut.cuttings import Part, piece_of
from stripcut.points import middle, origin, point_sum, way
from stripcut.shearing import FourSides


def slice_halved(told):
    """The lower half, which stays, and the upper half, turned about the middle of the right side."""
    left = middle(told.left_below, told.left_above)
    right = middle(told.right_below, told.right_above)
    lower = piece_of([told.left_below, told.right_below, right, left])
    upper = piece_of([left, right, told.right_above, told.left_above])
    # A half turn about a point is one about 0, 0 and then a slide by twice that point,
    # which here is the sum of the right side's two ends.
    slid = point_sum(told.right_below, told.right_above)
    return [Part(lower, 0, origin()), Part(upper, 1, slid)]


def slice_made(told):
    """What has four sides that the halved slice makes."""
    o = told.left_below
    u = point_sum(way(told.left_below, told.right_below), way(told.left_above, told.right_above))
    v = way(o, middle(told.left_below, told.left_above))
    return FourSides(o, u, v)
