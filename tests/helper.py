"""What the tests share: answers read back, and geometry worked out apart from the package."""

from fractions import Fraction
from math import gcd

LARGEST = 2 ** 256 - 1


def flat(*points):
    """A row of numbers for points whose parts are whole numbers or Fractions."""
    row = []
    for point in points:
        for value in point:
            value = Fraction(value)
            row += [value.numerator, value.denominator]
    return row


def cutting_row(*parts):
    """The answer that tells these parts, each a piece, 0 or 1, and the slide."""
    row = [len(parts)]
    for piece, turned, slid in parts:
        row += [len(piece)] + flat(*piece) + [turned] + flat(slid)
    return row


def read_fraction(case, numbers):
    top, bottom = numbers
    case.assertIs(int, type(top))
    case.assertIs(int, type(bottom))
    case.assertGreaterEqual(bottom, 1)
    case.assertEqual(1, gcd(top, bottom))
    return Fraction(top, bottom)


def read_point(case, numbers):
    return (read_fraction(case, numbers[:2]), read_fraction(case, numbers[2:]))


def read_points(case, numbers):
    case.assertEqual(0, len(numbers) % 4)
    return [read_point(case, numbers[k:k + 4]) for k in range(0, len(numbers), 4)]


def read_slices(case, answer):
    """The slices that were answered, each a list of four points."""
    case.assertEqual(1 + 16 * answer[0], len(answer))
    return [read_points(case, answer[k:k + 16]) for k in range(1, len(answer), 16)]


def read_cutting(case, answer):
    """The parts that were answered, each a piece, 0 or 1, and the slide."""
    parts = []
    at = 1
    while at < len(answer):
        end = at + 1 + 4 * answer[at]
        piece = read_points(case, answer[at + 1:end])
        case.assertIn(answer[end], (0, 1))
        parts.append((piece, answer[end], read_point(case, answer[end + 1:end + 5])))
        at = end + 5
    case.assertEqual(len(answer), at)
    case.assertEqual(answer[0], len(parts))
    return parts


def moved(part):
    piece, turned, slid = part
    sign = -1 if turned else 1
    return [(sign * x + slid[0], sign * y + slid[1]) for x, y in piece]


def turn(a, b, c):
    return (b[0] - a[0]) * (c[1] - a[1]) - (b[1] - a[1]) * (c[0] - a[0])


def around(corners):
    return list(zip(corners, corners[1:] + corners[:1]))


def size(corners):
    return Fraction(sum(a[0] * b[1] - b[0] * a[1] for a, b in around(corners)), 2)


def lies_in(point, convex):
    return all(turn(a, b, point) >= 0 for a, b in around(convex) if a != b)


def common_size(one, other):
    """The size of what two convex rows of corners, gone round on the left, have in common."""
    left = one
    for a, b in around(other):
        if a == b:
            continue
        kept = []
        for p, q in around(left):
            here, there = turn(a, b, p), turn(a, b, q)
            if here >= 0:
                kept.append(p)
            if here * there < 0:
                share = Fraction(here) / (here - there)
                kept.append((p[0] + share * (q[0] - p[0]), p[1] + share * (q[1] - p[1])))
        left = kept
        if not left:
            return Fraction(0)
    return size(left)


def check_piece(case, piece):
    """That it's told as an answered piece: from the leftmost corner on, on the left, none straight."""
    case.assertGreaterEqual(len(piece), 3)
    case.assertEqual(min(piece), piece[0])
    case.assertEqual(len(piece), len(set(piece)))
    for k, corner in enumerate(piece):
        following = piece[(k + 1) % len(piece)]
        for other in piece:
            if other not in (corner, following):
                case.assertGreater(turn(corner, following, other), 0)


def check_fills(case, pieces, whole):
    """That the pieces have nothing in common, lie in the convex whole, and have all of its size."""
    for k, piece in enumerate(pieces):
        for corner in piece:
            case.assertTrue(lies_in(corner, whole))
        for other in pieces[:k]:
            case.assertEqual(0, common_size(piece, other))
    case.assertEqual(size(whole), sum(size(piece) for piece in pieces))


def check_same_piece(case, piece, *bounds):
    """That the piece is all of what the convex rows of corners have in common: it lies in each, and has its size."""
    for bound in bounds:
        for corner in piece:
            case.assertTrue(lies_in(corner, bound))
    case.assertEqual(common_size(*bounds), size(piece))


def check_handed_in(case, call, *rows):
    """That the lists stay as they were, and that a second call answers as the first, whatever came between."""
    before = [list(row) for row in rows]
    first = call(*rows)
    case.assertEqual(before, list(rows))
    case.assertIs(list, type(first))
    case.assertTrue(all(type(number) is int for number in first))
    kept = list(first)
    first.append(7)
    call(*[[] for _ in rows])
    case.assertEqual(kept, call(*rows))
    case.assertEqual(before, list(rows))


def common_point(p, q, r, s):
    """Whether the way from p to q and that from r to s have a point in common, by solving for it."""
    u = (q[0] - p[0], q[1] - p[1])
    v = (s[0] - r[0], s[1] - r[1])
    w = (r[0] - p[0], r[1] - p[1])
    across = u[0] * v[1] - u[1] * v[0]
    if across != 0:
        t = Fraction(w[0] * v[1] - w[1] * v[0], across)
        k = Fraction(w[0] * u[1] - w[1] * u[0], across)
        return 0 <= t <= 1 and 0 <= k <= 1
    ends = [(r, p, q), (s, p, q), (p, r, s), (q, r, s)]
    return any(lies_on(point, a, b) for point, a, b in ends)


def lies_on(point, a, b):
    if turn(a, b, point) != 0:
        return False
    along = (point[0] - a[0]) * (b[0] - a[0]) + (point[1] - a[1]) * (b[1] - a[1])
    return 0 <= along <= (b[0] - a[0]) ** 2 + (b[1] - a[1]) ** 2 if a != b else point == a


def is_figure(corners):
    """The document's words on a figure, for 3 or more corners within the bounds."""
    count = len(corners)
    sides = around(corners)
    if len(set(corners)) < count:
        return False
    for k in range(count):
        (a, b), (b, c) = sides[k], sides[(k + 1) % count]
        if lies_on(c, a, b) or lies_on(a, b, c) or lies_on(b, a, c):
            return False
        for j in range(k):
            if (j + 1) % count != k and (k + 1) % count != j and common_point(*sides[j], *sides[k]):
                return False
    return size(corners) > 0


class Numbers:
    """A row of numbers that is the same at each run, for many and various inputs."""

    def __init__(self, seed):
        self.state = seed

    def below(self, count):
        self.state = (self.state * 6364136223846793005 + 1442695040888963407) % 2 ** 64
        return (self.state >> 33) % count

    def between(self, low, high):
        return low + self.below(high - low + 1)


def various_figures(count, corners, reach, seed):
    """That many figures with that many corners, as rows of pairs."""
    numbers = Numbers(seed)
    found = []
    while len(found) < count:
        row = [(numbers.between(-reach, reach), numbers.between(-reach, reach)) for _ in range(corners)]
        if size(row) < 0:
            row.reverse()
        if is_figure(row):
            found.append(row)
    return found


def row_of(corners):
    return [value for corner in corners for value in corner]
