"""Figures: rows of corners with whole numbers, and what makes a row no figure."""

from stripcut.refusals import NotAsTold

FEWEST_CORNERS = 3
MOST_CORNERS = 8
FARTHEST = 50


def read_figure(row):
    """The corners of the figure that the row tells, as pairs of whole numbers."""
    corners = read_corners(row)
    if has_straight_corner(corners):
        raise NotAsTold("a corner is straight or turns back")
    if is_tangled(sides_of(corners)):
        raise NotAsTold("two sides meet where the one doesn't follow the other")
    if double_size(corners) <= 0:
        raise NotAsTold("it's gone round on the right")
    return corners


def read_corners(row):
    count = len(row) // 2
    if len(row) % 2 != 0 or count < FEWEST_CORNERS or count > MOST_CORNERS:
        raise NotAsTold("a figure has 3 to 8 corners of two numbers each")
    if any([abs(number) > FARTHEST for number in row]):
        raise NotAsTold("a corner lies beyond -50 to 50")
    return [(row[2 * k], row[2 * k + 1]) for k in range(count)]


def sides_of(corners):
    """The sides in order, each as its first and its last corner."""
    count = len(corners)
    return [(corners[k], corners[(k + 1) % count]) for k in range(count)]


def turn(a, b, c):
    """Above 0 if c lies on the left of the line from a to b, below 0 if on its right, 0 if on it."""
    return (b[0] - a[0]) * (c[1] - a[1]) - (b[1] - a[1]) * (c[0] - a[0])


def has_straight_corner(corners):
    """Also true of one that turns back, and of a corner that stands twice in a row."""
    count = len(corners)
    turns = [turn(corners[k], corners[(k + 1) % count], corners[(k + 2) % count]) for k in range(count)]
    return 0 in turns


def is_tangled(sides):
    """Whether two sides have a point in common where the one doesn't follow the other."""
    count = len(sides)
    for j in range(count):
        for k in range(j + 2, count):
            # The last side is followed by the first one.
            if (j > 0 or k < count - 1) and sides_meet(sides[j], sides[k]):
                return True
    return False


def sides_meet(one, other):
    # Two sides on one line reach over each other's lines anyway: for them the spans decide.
    return (
        reaches_line(one, other)
        and reaches_line(other, one)
        and spans_meet(one[0][0], one[1][0], other[0][0], other[1][0])
        and spans_meet(one[0][1], one[1][1], other[0][1], other[1][1])
    )


def reaches_line(side, other):
    """Whether the side has a point on the line through the other one."""
    return turn(other[0], other[1], side[0]) * turn(other[0], other[1], side[1]) <= 0


def spans_meet(a, b, c, d):
    """Whether some number lies both from a to b and from c to d, each pair in either order."""
    return min(a, b) <= max(c, d) and min(c, d) <= max(a, b)


def double_size(corners):
    """Twice the size; below 0 if one goes round it on the right."""
    return sum([side[0][0] * side[1][1] - side[1][0] * side[0][1] for side in sides_of(corners)])
