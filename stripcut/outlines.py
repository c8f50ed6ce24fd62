"""Outlines: corners and sides in whole numbers, which tell without fractions on which side of a line a point lies."""

from stripcut.ratios import common_measure, ratio


class Outline:
    def __init__(self, corners):
        # The line with a corner's number leads to that corner from the one before it.
        self.corners = [over_one_bottom(corner) for corner in corners]
        self.lines = lines_between(self.corners)


def over_one_bottom(point):
    """The point as three whole numbers: the tops of its two fractions brought to one bottom, and that bottom."""
    right = point[0]
    up = point[1]
    measure = common_measure(right[1], up[1])
    return (right[0] * (up[1] // measure), up[0] * (right[1] // measure), right[1] * (up[1] // measure))


def point_from(corner):
    """The point that's told over one bottom."""
    return (ratio(corner[0], corner[2]), ratio(corner[1], corner[2]))


def lines_between(corners):
    return [line_through(corners[k - 1], corners[k]) for k in range(len(corners))]


def line_through(a, b):
    """The line from a to b as the three whole numbers that off_line asks for."""
    return (a[1] * b[2] - a[2] * b[1], a[2] * b[0] - a[0] * b[2], a[0] * b[1] - a[1] * b[0])


def off_line(line, corner):
    """Above 0 if the corner lies on the left of the line, below 0 if on its right, 0 if on it."""
    return line[0] * corner[0] + line[1] * corner[1] + line[2] * corner[2]


def is_piece(outline):
    """Whether from each side all other corners lie on its left."""
    count = len(outline.corners)
    for k in range(count):
        # From the corner behind the side on, round to the one ahead of it.
        others = [outline.corners[(k + j) % count] for j in range(1, count - 1)]
        if any([off_line(outline.lines[k], corner) <= 0 for corner in others]):
            return False
    return True


def has_within(outline, point):
    """Whether the point lies in the piece, or on its border."""
    told = over_one_bottom(point)
    return all([off_line(line, told) >= 0 for line in outline.lines])
