"""What two pieces have in common."""

from stripcut.points import cross, point_sum, scaled, way
from stripcut.ratios import minus, over

FEWEST_CORNERS = 3


def common_corners(one, other):
    """The corners of the piece that's in both, gone round on the left; none if they have no piece in common."""
    left = one
    for k in range(len(other)):
        left = left_corners(left, other[k - 1], other[k])
    return left


def left_corners(corners, a, b):
    """The corners of what of a piece lies on the left of the line from a to b; none if that's no piece."""
    offs = [cross(way(a, b), way(a, corner)) for corner in corners]
    kept = []
    for k in range(len(corners)):
        if offs[k - 1][0] * offs[k][0] < 0:
            kept.append(crossing(corners[k - 1], corners[k], offs[k - 1], offs[k]))
        if offs[k][0] >= 0:
            kept.append(corners[k])
    # A point or a side that's left mustn't be cut on: its two ends would come twice.
    return kept if len(kept) >= FEWEST_CORNERS else []


def crossing(a, b, off_a, off_b):
    """Where a line crosses the side from a to b; the offs tell how far off the line, to the left, the two lie."""
    share = over(off_a, minus(off_a, off_b))
    return point_sum(a, scaled(way(a, b), share))
