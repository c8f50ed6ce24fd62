"""What the tests share: answers read back, and geometry worked out apart from the package."""

from fractions import Fraction
from math import gcd

LARGEST = 2 ** 256 - 1


def flat(*points):
    """A row of numbers for points whose parts are whole numbers or Fractions."""
    row = []
    for point in points:
        for value in point:
            value = Fraction(value)
            row += [value.numerator, value.denominator]
    return row


def cutting_row(*parts):
    """The answer that tells these parts, each a piece, 0 or 1, and the slide."""
    row = [len(parts)]
    for piece, turned, slid in parts:
        row += [len(piece)] + flat(*piece) + [turned] + flat(slid)
    return row


def read_fraction(case, numbers):
    top, bottom = numbers
    case.assertIs(int, type(top))
    case.assertIs(int, type(bottom))
    case.assertGreaterEqual(bottom, 1)
    case.assertEqual(1, gcd(top, bottom))
    return Fraction(top, bottom)


def read_point(case, numbers):
    return (read_fraction(case, numbers[:2]), read_fraction(case, numbers[2:]))


def read_points(case, numbers):
    case.assertEqual(0, len(numbers) % 4)
    return [read_point(case, numbers[k:k + 4]) for k in range(0, len(numbers), 4)]


def read_slices(case, answer):
    """The slices that were answered, each a list of four points."""
    case.assertEqual(1 + 16 * answer[0], len(answer))
    return [read_points(case, answer[k:k + 16]) for k in range(1, len(answer), 16)]


def read_cutting(case, answer):
    """The parts that were answered, each a piece, 0 or 1, and the slide."""
    parts = read_row(case, answer[1:])
    case.assertEqual(answer[0], len(parts))
    return parts


def read_row(case, row):
    """The parts of a cutting that's told without their count ahead."""
    parts = []
    at = 0
    while at < len(row):
        end = at + 1 + 4 * row[at]
        piece = read_points(case, row[at + 1:end])
        case.assertIn(row[end], (0, 1))
        parts.append((piece, row[end], read_point(case, row[end + 1:end + 5])))
        at = end + 5
    case.assertEqual(len(row), at)
    return parts


def moved(part):
    piece, turned, slid = part
    sign = -1 if turned else 1
    return [(sign * x + slid[0], sign * y + slid[1]) for x, y in piece]


def turn(a, b, c):
    return (b[0] - a[0]) * (c[1] - a[1]) - (b[1] - a[1]) * (c[0] - a[0])


def around(corners):
    return list(zip(corners, corners[1:] + corners[:1]))


def size(corners):
    return Fraction(sum(a[0] * b[1] - b[0] * a[1] for a, b in around(corners)), 2)


def lies_in(point, convex):
    return all(turn(a, b, point) >= 0 for a, b in around(convex) if a != b)


def common_size(one, other):
    """The size of what two convex rows of corners, gone round on the left, have in common."""
    left = one
    for a, b in around(other):
        if a == b:
            continue
        kept = []
        for p, q in around(left):
            here, there = turn(a, b, p), turn(a, b, q)
            if here >= 0:
                kept.append(p)
            if here * there < 0:
                share = Fraction(here) / (here - there)
                kept.append((p[0] + share * (q[0] - p[0]), p[1] + share * (q[1] - p[1])))
        left = kept
        if not left:
            return Fraction(0)
    return size(left)


def are_apart(one, other):
    """Whether two rows of corners have boxes with nothing but border in common: a quick no to most pairs."""
    return any(
        max(p[k] for p in one) <= min(q[k] for q in other) or max(q[k] for q in other) <= min(p[k] for p in one)
        for k in (0, 1)
    )


def size_within(piece, corners):
    """The size of what a piece has in common with a figure, taken as triangles that add up and take away."""
    found = Fraction(0)
    for a, b in around(corners[1:])[:-1]:
        triangle = [corners[0], a, b]
        if size(triangle) > 0:
            found += common_size(piece, triangle)
        if size(triangle) < 0:
            found -= common_size(piece, triangle[::-1])
    return found


def check_piece(case, piece):
    """That it's told as an answered piece: from the leftmost corner on, on the left, none straight."""
    case.assertGreaterEqual(len(piece), 3)
    case.assertEqual(min(piece), piece[0])
    case.assertEqual(len(piece), len(set(piece)))
    for k, corner in enumerate(piece):
        following = piece[(k + 1) % len(piece)]
        for other in piece:
            if other not in (corner, following):
                case.assertGreater(turn(corner, following, other), 0)


def check_fills(case, pieces, whole):
    """That the pieces have nothing in common, lie in the convex whole, and have all of its size."""
    for piece in pieces:
        for corner in piece:
            case.assertTrue(lies_in(corner, whole))
    check_apart(case, pieces)
    case.assertEqual(size(whole), sum(size(piece) for piece in pieces))


def check_apart(case, pieces):
    for k, piece in enumerate(pieces):
        for other in pieces[:k]:
            if not are_apart(piece, other):
                case.assertEqual(0, common_size(piece, other))


def check_fills_figure(case, pieces, corners):
    """That the pieces have nothing in common, lie in the figure, and have all of its size."""
    check_apart(case, pieces)
    for piece in pieces:
        case.assertEqual(size(piece), size_within(piece, corners))
    case.assertEqual(size(corners), sum(size(piece) for piece in pieces))


def check_same_piece(case, piece, *bounds):
    """That the piece is all of what the convex rows of corners have in common: it lies in each, and has its size."""
    for bound in bounds:
        for corner in piece:
            case.assertTrue(lies_in(corner, bound))
    case.assertEqual(common_size(*bounds), size(piece))


def common_piece(one, other):
    """What two pieces have in common, told as an answered piece, or [] if that's no piece."""
    if are_apart(one, other):
        return []
    points = [p for p in one if lies_in(p, other)] + [p for p in other if lies_in(p, one)]
    for a, b in around(one):
        for p, q in around(other):
            here, there = turn(p, q, a), turn(p, q, b)
            if here * there < 0 and turn(a, b, p) * turn(a, b, q) <= 0:
                share = Fraction(here) / (here - there)
                points.append((a[0] + share * (b[0] - a[0]), a[1] + share * (b[1] - a[1])))
    return spanned(points)


def spanned(points):
    """The piece that points span, from the leftmost one on; [] if they lie on one line."""
    row = sorted(set(points))

    def bent(order):
        kept = []
        for point in order:
            while len(kept) > 1 and turn(kept[-2], kept[-1], point) <= 0:
                kept.pop()
            kept.append(point)
        return kept[:-1]

    piece = bent(row) + bent(row[::-1])
    return piece if len(piece) > 2 else []


def by_move(part, point):
    piece, turned, slid = part
    sign = -1 if turned else 1
    return (sign * point[0] + slid[0], sign * point[1] + slid[1])


def by_move_back(part, point):
    piece, turned, slid = part
    sign = -1 if turned else 1
    return (sign * (point[0] - slid[0]), sign * (point[1] - slid[1]))


def parts_behind(first, second):
    """The document's words on one cutting behind another; the parts are those that read_cutting gives."""
    made = []
    for one in first:
        for other in second:
            there = common_piece(moved(one), other[0])
            if there:
                piece = spanned([by_move_back(one, point) for point in there])
                made.append((piece, one[1] ^ other[1], by_move(other, by_move(one, (0, 0)))))
    return made


def parts_back(parts):
    return [(spanned(moved(part)), part[1], by_move_back(part, (0, 0))) for part in parts]


def check_handed_in(case, call, *rows):
    """That the lists stay as they were, and that a second call answers as the first, whatever came between."""
    before = [list(row) for row in rows]
    first = call(*rows)
    case.assertEqual(before, list(rows))
    case.assertIs(list, type(first))
    case.assertTrue(all(type(number) is int for number in first))
    kept = list(first)
    first.append(7)
    call(*[[] for _ in rows])
    case.assertEqual(kept, call(*rows))
    case.assertEqual(before, list(rows))


def common_point(p, q, r, s):
    """Whether the way from p to q and that from r to s have a point in common, by solving for it."""
    u = (q[0] - p[0], q[1] - p[1])
    v = (s[0] - r[0], s[1] - r[1])
    w = (r[0] - p[0], r[1] - p[1])
    across = u[0] * v[1] - u[1] * v[0]
    if across != 0:
        t = Fraction(w[0] * v[1] - w[1] * v[0], across)
        k = Fraction(w[0] * u[1] - w[1] * u[0], across)
        return 0 <= t <= 1 and 0 <= k <= 1
    ends = [(r, p, q), (s, p, q), (p, r, s), (q, r, s)]
    return any(lies_on(point, a, b) for point, a, b in ends)


def lies_on(point, a, b):
    if turn(a, b, point) != 0:
        return False
    along = (point[0] - a[0]) * (b[0] - a[0]) + (point[1] - a[1]) * (b[1] - a[1])
    return 0 <= along <= (b[0] - a[0]) ** 2 + (b[1] - a[1]) ** 2 if a != b else point == a


def is_figure(corners):
    """The document's words on a figure, for 3 or more corners within the bounds."""
    count = len(corners)
    sides = around(corners)
    if len(set(corners)) < count:
        return False
    for k in range(count):
        (a, b), (b, c) = sides[k], sides[(k + 1) % count]
        if lies_on(c, a, b) or lies_on(a, b, c) or lies_on(b, a, c):
            return False
        for j in range(k):
            if (j + 1) % count != k and (k + 1) % count != j and common_point(*sides[j], *sides[k]):
                return False
    return size(corners) > 0


TRIANGLE = [(0, 0), (4, 0), (1, 3)]
SQUARE = [(0, 0), (2, 0), (2, 2), (0, 2)]


def part_row(piece, turned=0, slid=(0, 0)):
    return [len(piece)] + flat(*piece) + [turned] + flat(slid)


def parts_row(parts):
    """The row that tells these parts as a cutting that's handed in."""
    return cutting_row(*parts)[1:]


def curve(count):
    """A piece with that many corners: they lie on a curve that bends to the left all along."""
    return [(k, k * k) for k in range(count)]


def many_parts(count):
    """A cutting of that many triangles beside each other."""
    return [([(k, 0), (k + 1, 0), (k, 1)], 0, (0, 0)) for k in range(count)]


def wrong_pieces():
    """Corners of which no piece can be told, however they're begun; each with what's wrong."""
    return [
        ("gone round on the right", TRIANGLE[::-1]),
        ("a square gone round on the right", SQUARE[::-1]),
        ("all on one line", [(0, 0), (1, 1), (2, 2)]),
        ("all on one line, there and back", [(0, 0), (2, 0), (1, 0)]),
        ("a straight corner", [(0, 0), (2, 0), (4, 0), (1, 3)]),
        ("a straight corner of fractions", [(0, 0), (4, 0), (Fraction(5, 2), Fraction(3, 2)), (1, 3)]),
        ("a corner that turns back", [(0, 0), (4, 0), (3, 0), (1, 3)]),
        ("a corner that turns back behind a way on", [(0, 0), (5, 0), (4, 0), (1, 3)]),
        ("an inner corner", [(0, 0), (4, 0), (1, 1), (0, 4)]),
        ("an inner corner that's hardly one", [(0, 0), (4, 0), (2 - Fraction(1, 2 ** 250), 2), (0, 4)]),
        ("the same corner twice in a row", [(0, 0), (0, 0), (4, 0), (1, 3)]),
        ("the same corner thrice", [(1, 1), (1, 1), (1, 1)]),
        ("the same corner twice apart", [(0, 0), (4, 0), (4, 4), (2, 1), (0, 4), (2, 1)]),
        ("gone round twice by the same corners", TRIANGLE + TRIANGLE),
        ("sides that cross", [(0, 0), (4, 4), (4, 0), (0, 4)]),
        ("sides that go round twice, each turn to the left", [(0, 6), (-4, -5), (6, 2), (-6, 2), (4, -5)]),
        (
            "sides that go round twice, with a loop within",
            [(0, 0), (9, 0), (9, 9), (1, 9), (1, 2), (7, 2), (7, 7), (0, 7)],
        ),
        ("sides that go round thrice", [(10, 0), (-9, 4), (6, -8), (-2, 10), (-2, -10), (6, 8), (-9, -4)]),
    ]


def wrong_cuttings():
    """Rows that tell no cutting, each with what's wrong; they're short, and can stand behind parts as told."""
    good = part_row(TRIANGLE, 1, (Fraction(1, 2), -3))
    found = []
    for what, corners in wrong_pieces():
        for k in range(len(corners)):
            found.append((what, part_row(corners[k:] + corners[:k])))
    for count in (-LARGEST, -3, -1, 0, 1, 2, 4, 5, 41, LARGEST):
        found.append(("another count of corners", [count] + good[1:]))
    for count in (0, 1, 2):
        found.append(("too few corners", part_row(TRIANGLE[:count])))
    for length in range(1, len(good)):
        found.append(("fewer numbers than a part has", good[:length]))
    for tail in ([0], [3], [-1], [1, 1], [0, 0, 1, 0, 1], [3] + [0, 1] * 8 + [0], [LARGEST]):
        found.append(("numbers left over", good + tail))
    for value in (-1, 2, 3, -LARGEST, LARGEST):
        found.append(("neither turned nor not", good[:13] + [value] + good[14:]))
    tops = [1, 3, 5, 7, 9, 11, 14, 16]
    for k in tops:
        for value in (0, -1, -2, -LARGEST):
            found.append(("a second number below 1", good[:k + 1] + [value] + good[k + 2:]))
        for first, second in ((2, 2), (0, 2), (6, 4), (-6, 9), (0, LARGEST), (LARGEST, LARGEST), (1, 0), (0, 0)):
            found.append(("no fraction", good[:k] + [first, second] + good[k + 2:]))
        found.append(("twice the fraction's numbers", good[:k] + [2 * good[k], 2 * good[k + 1]] + good[k + 2:]))
        found.append(("the fraction's numbers below 0", good[:k] + [-good[k], -good[k + 1]] + good[k + 2:]))
    for number in (1, -1, 3, LARGEST, -LARGEST):
        found.append(("one number all along", [number] * 18))
    return found


def long_wrong_rows():
    """Rows as long as may be handed in, or about that, which tell no cutting."""
    good = part_row(TRIANGLE)
    return [
        [3] * 4000, [0] * 4000, [1] * 4000, [LARGEST] * 4000, [-LARGEST] * 3999, (good * 223)[:4000], good * 222 + [3],
        part_row(curve(41)), part_row(curve(41)) * 23, part_row(curve(40)) * 24 + part_row(curve(40)[::-1])[:16],
        part_row(curve(900)), part_row(curve(40)[::-1]) * 24, part_row(curve(40)) * 23 + part_row(curve(40)[::-1]),
    ]


class Numbers:
    """A row of numbers that is the same at each run, for many and various inputs."""

    def __init__(self, seed):
        self.state = seed

    def below(self, count):
        self.state = (self.state * 6364136223846793005 + 1442695040888963407) % 2 ** 64
        return (self.state >> 33) % count

    def between(self, low, high):
        return low + self.below(high - low + 1)


def various_piece(numbers, reach, bottom):
    """A piece spanned by some points whose fractions have bottoms up to the told one; begun with any corner."""
    piece = []
    while not piece:
        piece = spanned([
            tuple(Fraction(numbers.between(-reach, reach), numbers.between(1, bottom)) for _ in range(2))
            for _ in range(numbers.between(3, 9))
        ])
    k = numbers.below(len(piece))
    return piece[k:] + piece[:k]


def various_parts(numbers, count, reach, bottom):
    """That many parts, each somewhere, slid or turned and slid."""
    return [
        (
            various_piece(numbers, reach, bottom), numbers.below(2),
            tuple(Fraction(numbers.between(-reach, reach), numbers.between(1, bottom)) for _ in range(2)),
        )
        for _ in range(count)
    ]


def various_figures(count, corners, reach, seed):
    """That many figures with that many corners, as rows of pairs."""
    numbers = Numbers(seed)
    found = []
    while len(found) < count:
        row = [(numbers.between(-reach, reach), numbers.between(-reach, reach)) for _ in range(corners)]
        if size(row) < 0:
            row.reverse()
        if is_figure(row):
            found.append(row)
    return found


def row_of(corners):
    return [value for corner in corners for value in corner]
