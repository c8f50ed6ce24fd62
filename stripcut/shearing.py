"""What has four sides, sheared: v becomes v and k times u, by slides along u."""

from stripcut.clipping import common_corners
from stripcut.cuttings import Part, piece_of
from stripcut.outlines import Outline
from stripcut.points import POINT_LENGTH, cross, point_sum, read_points, scaled
from stripcut.ratios import plus
from stripcut.refusals import NotAsTold, TooMuch

MOST_SHEARED = 60


class FourSides:
    def __init__(self, o, u, v):
        # The corner, and the two ways from it, v on the left of u.
        self.o = o
        self.u = u
        self.v = v


def read_four_sides(numbers):
    # The count comes first, so that a long list isn't read for nothing.
    if len(numbers) != 3 * POINT_LENGTH:
        raise NotAsTold("what has four sides is told by three points")
    points = read_points(numbers)
    if cross(points[1], points[2])[0] <= 0:
        raise NotAsTold("v isn't on the left of u")
    return FourSides(points[0], points[1], points[2])


def sheared(told, k):
    """The parts that make of what has four sides the one sheared by k, by j rising."""
    if abs(k[0]) > MOST_SHEARED * k[1]:
        raise TooMuch("it's sheared by more than 60")
    return [sheared_part(told, k, j) for j in slides_with_a_piece(k)]


def slides_with_a_piece(k):
    """Each j for which the old one and the new one, slid by j times u, have a piece in common."""
    # In shares of u the old one goes from 0 to 1 all the way up, and the slid one begins at j
    # below and at j and k above: somewhere between it must begin above -1 and below 1.
    first = min(0, -k[0] // k[1])
    last = max(0, -(k[0] // k[1]))
    return list(range(first, last + 1))


def sheared_part(told, k, j):
    # Reckoned in shares of u and v the numbers stay small; left stays left, as v is on the left of u.
    shares = common_corners(Outline(square_shares()), Outline(slid_shares(k, j)))
    corners = [point_at(told, share) for share in shares]
    return Part(piece_of(corners), 0, scaled(told.u, (-j, 1)))


def square_shares():
    """The corners of the old one, each as its shares of u and v."""
    return [((0, 1), (0, 1)), ((1, 1), (0, 1)), ((1, 1), (1, 1)), ((0, 1), (1, 1))]


def slid_shares(k, j):
    """The corners of the new one, slid by j times u, each as its shares of the old u and v."""
    above = plus(k, (j, 1))
    return [((j, 1), (0, 1)), ((j + 1, 1), (0, 1)), (plus(above, (1, 1)), (1, 1)), (above, (1, 1))]


def point_at(told, share):
    return point_sum(told.o, point_sum(scaled(told.u, share[0]), scaled(told.v, share[1])))
