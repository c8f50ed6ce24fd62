"""What two pieces have in common."""

from stripcut.outlines import off_line, point_from
from stripcut.ratios import common_measure


def common_corners(one, other):
    """The corners of the piece that's in both outlines, gone round on the left; none if they have none in common."""
    # Asked first, this spares cutting where nothing is left, and what's cut on then is always a piece.
    if is_cut_off(one, other) or is_cut_off(other, one):
        return []
    left = one.corners
    for line in other.lines:
        left = left_corners(left, line)
    return [point_from(corner) for corner in left]


def is_cut_off(one, other):
    """Whether a side of the one outline has nothing of the other one on its left."""
    # Two pieces have no piece in common just if a side of either does that to the other.
    for line in one.lines:
        if has_none_left(line, other.corners):
            return True
    return False


def has_none_left(line, corners):
    for corner in corners:
        if off_line(line, corner) > 0:
            return False
    return True


def left_corners(corners, line):
    """The corners of what of a piece lies on the left of the line, which leaves some of it."""
    offs = [off_line(line, corner) for corner in corners]
    kept = []
    for k in range(len(corners)):
        if offs[k - 1] * offs[k] < 0:
            kept.append(crossing(corners[k - 1], corners[k], offs[k - 1], offs[k]))
        if offs[k] >= 0:
            kept.append(corners[k])
    return kept


def crossing(a, b, off_a, off_b):
    """Where a line crosses the side from a to b, which lie off it by off_a and off_b, to either side."""
    # Each end weighs as much as the other one is off the line; so weighed, the bottoms count in by themselves.
    right = a[0] * abs(off_b) + b[0] * abs(off_a)
    up = a[1] * abs(off_b) + b[1] * abs(off_a)
    bottom = a[2] * abs(off_b) + b[2] * abs(off_a)
    measure = common_measure(common_measure(bottom, right), up)
    return (right // measure, up // measure, bottom // measure)
