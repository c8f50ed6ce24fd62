"""What's upright, with a corner at 0, 0, made as wide as told."""

from stripcut.chaining import cutting_behind, taken_back
from stripcut.cuttings import Part
from stripcut.points import origin
from stripcut.ratios import is_less, minus, over, plus, times
from stripcut.stepping import stairs_parts


def widened(a, b, w):
    """The parts that make what's a wide and b high w wide."""
    if is_less(a, w):
        count = (how_often(a, w), 1)
        alike = put_beside(a, over(b, count), count[0])
        wide = times(a, count)
    else:
        count = (how_often(w, a), 1)
        wide = over(a, count)
        alike = put_on_another(wide, b, count[0])
    high = over(times(a, b), wide)
    return cutting_behind(alike, stepped(wide, high, w))


def how_often(small, large):
    """How often the one goes into the other, as a whole number."""
    share = over(large, small)
    return share[0] // share[1]


def put_on_another(wide, high, count):
    """So many alike that lie beside each other, from the left; each but the first is put on the one before it."""
    parts = []
    for k in range(count):
        left = times(wide, (k, 1))
        piece = upright_piece((left, (0, 1)), wide, high)
        parts.append(Part(piece, 0, (minus((0, 1), left), times(high, (k, 1)))))
    return parts


def put_beside(wide, high, count):
    """So many alike that lie on one another, from below; each but the first is put to the right of the one before."""
    parts = []
    for k in range(count):
        low = times(high, (k, 1))
        piece = upright_piece(((0, 1), low), wide, high)
        parts.append(Part(piece, 0, (times(wide, (k, 1)), minus((0, 1), low))))
    return parts


def upright_piece(corner, wide, high):
    """What's upright, with this corner left below."""
    right = plus(corner[0], wide)
    above = plus(corner[1], high)
    return [corner, (right, corner[1]), (right, above), (corner[0], above)]


def stepped(a, b, w):
    """What's a wide and b high, a at least half of w and at most twice it, made w wide."""
    if is_less(w, a):
        return stairs_parts(a, b, w)
    if is_less(a, w):
        return taken_back(stairs_parts(w, over(times(a, b), w), a))
    return [Part(upright_piece(origin(), a, b), 0, origin())]
