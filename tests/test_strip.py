"""strip: figures of each count of corners at each width, by the document's words, what holds, and what's too much."""

import unittest
from fractions import Fraction
from math import ceil, floor

from stripcut.strips import strip
from tests import helper

HALF = Fraction(1, 2)
# With an inner corner; with two slices beside each other; with one point below and one above.
ARROW = [(0, 0), (4, 4), (0, 1), (-4, 4)]
TOWERS = [(0, 0), (6, 0), (6, 4), (4, 4), (4, 2), (2, 2), (2, 4), (0, 4)]
LEANING = [(0, 0), (5, 1), (1, 3)]


def upright(wide, high):
    return [(0, 0), (wide, 0), (wide, high), (0, high)]


def slid_on(parts, right, up):
    return [(piece, turned, (slid[0] + right, slid[1] + up)) for piece, turned, slid in parts]


def slices_of(corners):
    found = []
    heights = sorted({corner[1] for corner in corners})
    for low, high in zip(heights, heights[1:]):
        ends = []
        for a, b in helper.around(corners):
            if a[1] > b[1]:
                a, b = b, a
            if a[1] <= low and high <= b[1] and a[1] != b[1]:
                lean = Fraction(b[0] - a[0], b[1] - a[1])
                ends.append((a[0] + (low - a[1]) * lean, a[0] + (high - a[1]) * lean))
        ends.sort(key=sum)
        for left, right in zip(ends[::2], ends[1::2]):
            found.append([(left[0], low), (right[0], low), (right[1], high), (left[1], high)])
    return found


def halves_of(told):
    left_below, right_below, right_above, left_above = told
    middle = HALF * (left_below[1] + left_above[1])
    left, right = (HALF * (left_below[0] + left_above[0]), middle), (HALF * (right_below[0] + right_above[0]), middle)
    lower = helper.spanned([left_below, right_below, right, left])
    upper = helper.spanned([left, right, right_above, left_above])
    return [(lower, 0, (0, 0)), (upper, 1, (2 * right[0], 2 * middle))]


def four_of(told):
    """Where left below is, how far u leads to the right, and v."""
    left_below, right_below, right_above, left_above = told
    wide = right_below[0] - left_below[0] + right_above[0] - left_above[0]
    return left_below, wide, (HALF * (left_above[0] - left_below[0]), HALF * (left_above[1] - left_below[1]))


def sheared(o, wide, v, k):
    parts = []
    old = [o, (o[0] + wide, o[1]), (o[0] + wide + v[0], o[1] + v[1]), (o[0] + v[0], o[1] + v[1])]
    for j in range(-ceil(abs(k)) - 1, ceil(abs(k)) + 2):
        new = [(x + j * wide + (k * wide if y > o[1] else 0), y) for x, y in old]
        piece = helper.common_piece(old, new)
        if piece:
            parts.append((piece, 0, (-j * wide, 0)))
    return parts


def stairs_of(a, b, c):
    d = a * b / c
    corners = upright(a, b)
    below = [(0, d), (0, -d), (2 * a, -d)]
    above = [(0, d), (2 * a, -d), (2 * a, d)]
    as_far = [(0, -d), (c, -d), (c, 2 * d), (0, 2 * d)]
    farther = [(c, -d), (2 * a, -d), (2 * a, 2 * d), (c, 2 * d)]
    under = helper.common_piece(corners, below)
    return [
        (helper.common_piece(under, as_far), 0, (0, 0)),
        (helper.common_piece(under, farther), 0, (-c, b)),
        (helper.common_piece(corners, above), 0, (c - a, d - b)),
    ]


def widened(parts, a, b, w):
    """Behind these parts, which make what's a wide and b high: made w wide."""
    if a >= w:
        n = floor(a / w)
        wide, high = a / n, b * n
        alike = [([(x + j * wide, y) for x, y in upright(wide, b)], 0, (-j * wide, j * b)) for j in range(n)]
    else:
        n = floor(w / a)
        wide, high = a * n, b / n
        alike = [([(x, y + j * high) for x, y in upright(a, high)], 0, (j * a, -j * high)) for j in range(n)]
    parts = helper.parts_behind(parts, alike)
    if wide > w:
        return helper.parts_behind(parts, stairs_of(wide, high, Fraction(w)))
    if wide < w:
        return helper.parts_behind(parts, helper.parts_back(stairs_of(Fraction(w), wide * high / w, wide)))
    return parts


def strip_by_the_words(w, corners):
    """Gone through step by step as the document tells it, however much it is."""
    made = []
    height = Fraction(0)
    for told in slices_of(corners):
        o, wide, v = four_of(told)
        parts = helper.parts_behind(halves_of(told), sheared(o, wide, v, -v[0] / wide))
        parts = widened(slid_on(parts, -o[0], -o[1]), wide, v[1], w)
        made += slid_on(parts, 0, height)
        height += wide * v[1] / w
    return made


def shears_of(corners):
    return [-v[0] / wide for o, wide, v in map(four_of, slices_of(corners))]


def widths_of(corners):
    return [wide for o, wide, v in map(four_of, slices_of(corners))]


def reasons(w, corners):
    """For which of the document's reasons but the count of parts it's too much."""
    found = []
    if max(map(abs, shears_of(corners))) > 60:
        found.append("shear")
    if max(widths_of(corners)) > 60 * w:
        found.append("wide")
    if w > 60 * min(widths_of(corners)):
        found.append("narrow")
    return found


def call(w, corners):
    return strip(w, helper.row_of(corners))


class Case(unittest.TestCase):
    def check_words(self, w, corners):
        parts = strip_by_the_words(w, corners)
        self.assertEqual([], reasons(w, corners))
        self.assertLessEqual(len(parts), 160)
        self.assertEqual(helper.cutting_row(*parts), call(w, corners))
        return parts

    def check_holds(self, w, corners):
        """What holds of any strip, without a look at how it's cut."""
        parts = helper.read_cutting(self, call(w, corners))
        for part in parts:
            helper.check_piece(self, part[0])
        helper.check_fills_figure(self, [part[0] for part in parts], corners)
        high = helper.size(corners) / w
        helper.check_fills(self, [helper.moved(part) for part in parts], upright(w, high))


class KnownStrips(Case):
    def check(self, w, corners, *parts):
        self.assertEqual(helper.cutting_row(*parts), call(w, corners))
        self.check_words(w, corners)
        self.check_holds(w, corners)

    def test_numbers_one_by_one(self):
        self.assertEqual(
            [2,
             4, 1, 1, 0, 1, 2, 1, 0, 1, 2, 1, 1, 1, 1, 1, 1, 1, 0, -1, 1, 0, 1,
             4, 1, 1, 1, 1, 2, 1, 1, 1, 2, 1, 2, 1, 1, 1, 2, 1, 1, 3, 1, 2, 1],
            strip(2, [1, 0, 2, 0, 2, 2, 1, 2]),
        )

    def test_w_as_wide_as_the_slice_is_made(self):
        # 2 wide and 2 high, halved 4 wide and 1 high, sheared by 0.
        self.check(
            4, upright(2, 2),
            ([(0, 0), (2, 0), (2, 1), (0, 1)], 0, (0, 0)),
            ([(0, 1), (2, 1), (2, 2), (0, 2)], 1, (4, 2)),
        )

    def test_a_twice_w(self):
        self.check(
            2, upright(2, 2),
            ([(0, 0), (2, 0), (2, 1), (0, 1)], 0, (0, 0)),
            ([(0, 1), (2, 1), (2, 2), (0, 2)], 1, (2, 3)),
        )

    def test_w_twice_a(self):
        self.check(
            8, upright(2, 2),
            ([(0, 0), (2, 0), (2, HALF), (0, HALF)], 0, (0, 0)),
            ([(0, HALF), (2, HALF), (2, 1), (0, 1)], 0, (4, -HALF)),
            ([(0, 3 * HALF), (2, 3 * HALF), (2, 2), (0, 2)], 1, (4, 2)),
            ([(0, 1), (2, 1), (2, 3 * HALF), (0, 3 * HALF)], 1, (8, 3 * HALF)),
        )

    def test_stairs(self):
        # 4 wide and 1 high, made 3 wide: the line leads from 0, 4/3 to 4, 0.
        third = Fraction(1, 3)
        self.check(
            3, upright(2, 2),
            ([(0, 0), (2, 0), (2, 2 * third), (1, 1), (0, 1)], 0, (0, 0)),
            ([(1, 1), (2, 2 * third), (2, 1)], 0, (-1, third)),
            ([(1, 5 * third), (2, 4 * third), (2, 2), (1, 2)], 1, (4, 2)),
            ([(0, 2), (1, 5 * third), (1, 2)], 1, (1, 3)),
            ([(0, 1), (2, 1), (2, 4 * third), (0, 2)], 1, (3, 2 + third)),
        )

    def test_stairs_taken_back(self):
        # 4 wide and 1 high, made 5 wide: from 5 wide and 4/5 high by stairs to 4 wide, taken back.
        fifth = Fraction(1, 5)
        self.check(
            5, upright(2, 2),
            ([(0, 0), (2, 0), (2, 3 * fifth), (1, 4 * fifth), (0, 4 * fifth)], 0, (0, 0)),
            ([(0, 4 * fifth), (1, 4 * fifth), (0, 1)], 0, (4, -4 * fifth)),
            ([(0, 1), (2, 3 * fifth), (2, 1)], 0, (1, -fifth)),
            ([(0, 9 * fifth), (2, 7 * fifth), (2, 2), (0, 2)], 1, (4, 2)),
            ([(0, 1), (2, 1), (2, 7 * fifth), (0, 9 * fifth)], 1, (5, 2 - fifth)),
        )

    def test_one_point_above(self):
        # A shear by 0: the left side is upright.
        self.check(
            2, [(0, 0), (2, 0), (0, 2)],
            ([(0, 0), (2, 0), (1, 1), (0, 1)], 0, (0, 0)),
            ([(0, 1), (1, 1), (0, 2)], 1, (2, 2)),
        )

    def test_one_point_below(self):
        self.check(
            2, [(0, 0), (2, 2), (0, 2)],
            ([(0, 0), (1, 1), (0, 1)], 0, (0, 0)),
            ([(0, 1), (1, 1), (2, 2), (0, 2)], 1, (2, 2)),
        )

    def test_shear_by_a_whole_number(self):
        # Halved it's 2 wide, and v leads 2 to the right: sheared by -1.
        self.check(
            2, [(1, 1), (3, 1), (5, 3)],
            ([(1, 1), (3, 1), (3, 2)], 0, (-1, -1)),
            ([(3, 1), (4, 2), (3, 2)], 0, (-3, -1)),
            ([(3, 2), (4, 2), (5, 3)], 1, (5, 3)),
        )

    def test_slices_on_one_another(self):
        self.check(
            2, [(0, 0), (1, 0), (1, 2), (2, 2), (2, 4), (0, 4)],
            ([(0, 0), (1, 0), (1, 1), (0, 1)], 0, (0, 0)),
            ([(0, 1), (1, 1), (1, 2), (0, 2)], 1, (2, 2)),
            ([(0, 2), (2, 2), (2, 3), (0, 3)], 0, (0, -1)),
            ([(0, 3), (2, 3), (2, 4), (0, 4)], 1, (2, 6)),
        )

    def test_slices_beside_each_other(self):
        # Below 12 wide and 1 high, cut into three; on it the left tower, on that the right one.
        self.check(
            4, TOWERS,
            ([(0, 0), (4, 0), (4, 1), (0, 1)], 0, (0, 0)),
            ([(4, 0), (6, 0), (6, 1), (4, 1)], 0, (-4, 1)),
            ([(4, 1), (6, 1), (6, 2), (4, 2)], 1, (8, 3)),
            ([(0, 1), (4, 1), (4, 2), (0, 2)], 1, (4, 4)),
            ([(0, 2), (2, 2), (2, 3), (0, 3)], 0, (0, 1)),
            ([(0, 3), (2, 3), (2, 4), (0, 4)], 1, (4, 7)),
            ([(4, 2), (6, 2), (6, 3), (4, 3)], 0, (-4, 2)),
            ([(4, 3), (6, 3), (6, 4), (4, 4)], 1, (8, 8)),
        )


class NamedFigures(Case):
    def check(self, corners, *too_much):
        """At each width, of which these are too much."""
        for w in range(1, 21):
            with self.subTest(w=w):
                if w in too_much:
                    self.assertGreater(len(strip_by_the_words(w, corners)), 160)
                    self.assertEqual([-28], call(w, corners))
                else:
                    self.check_words(w, corners)
        for w in (1, 2, 3, 5, 8, 13, 20):
            with self.subTest(w=w):
                self.check_holds(w, corners)

    def test_one_point_below_and_one_above(self):
        self.check(LEANING)

    def test_inner_corner(self):
        self.check([(0, 0), (4, 0), (1, 2), (4, 4), (0, 4)])

    def test_inner_corner_and_two_slices_beside_each_other(self):
        self.check(ARROW, 19)

    def test_two_slices_beside_each_other(self):
        self.check(TOWERS)

    def test_shear_by_0(self):
        corners = [(0, 0), (3, 0), (3, 7), (0, 7)]
        self.assertEqual([0], shears_of(corners))
        self.check(corners)

    def test_shear_by_whole_numbers(self):
        for corners, shear in (
            ([(1, 1), (3, 1), (5, 3)], -1), ([(0, 0), (1, 0), (9, 3), (8, 3)], -2), ([(0, 0), (2, 0), (-12, 5)], 3),
        ):
            self.assertEqual([shear], shears_of(corners))
            self.check(corners)

    def test_w_as_wide_as_each_slice_is_made(self):
        for w in range(1, 21):
            corners = [(0, 0), (w, 0), (-3, 4)]
            self.assertEqual([w], widths_of(corners))
            self.check_words(w, corners)
            self.check_holds(w, corners)

    def test_a_about_w_its_double_and_its_half(self):
        for a in (9, 10, 11, 19, 20, 21, 39, 40, 41):
            corners = [(0, 0), (a, 0), (-3, 4)]
            self.assertEqual([a], widths_of(corners))
            self.check_words(20, corners)
            self.check_holds(20, corners)

    def test_begun_with_any_corner(self):
        for corners in (LEANING, ARROW, TOWERS):
            known = call(3, corners)
            for k in range(len(corners)):
                self.assertEqual(known, call(3, corners[k:] + corners[:k]))

    def test_elsewhere_only_the_slides_and_pieces_are_others(self):
        here = helper.read_cutting(self, call(3, ARROW))
        there = helper.read_cutting(self, call(3, [(x - 17, y + 23) for x, y in ARROW]))
        self.assertEqual([helper.moved(part) for part in here], [helper.moved(part) for part in there])

    def test_out_to_the_bounds(self):
        for w in (4, 7, 20):
            self.check_words(w, [(-50, -50), (50, -50), (50, 50), (-50, 50)])
            self.check_holds(w, [(-50, -50), (50, -50), (50, 50), (-50, 50)])


class VariousFigures(Case):
    def figures(self, corners, reach, seed, count):
        """Figures, each with a width at which it's not too much."""
        numbers = helper.Numbers(seed)
        for figure in helper.various_figures(count, corners, reach, seed):
            w = numbers.between(1, 20)
            while call(w, figure) == [-28] and w < 20:
                w += 1
            if call(w, figure) != [-28]:
                yield w, figure

    def test_by_the_words(self):
        seen = dict.fromkeys(("put on another", "put beside", "stairs", "stairs taken back"), 0)
        for corners in range(3, 9):
            for reach in (4, 12, 30):
                if reach == 4 and corners > 6:
                    continue
                for w, figure in self.figures(corners, reach, 10 * corners + reach, 5):
                    with self.subTest(w=w, figure=figure):
                        self.check_words(w, figure)
                    for wide in widths_of(figure):
                        seen["put on another" if wide >= w else "put beside"] += 1
                        seen["stairs"] += wide > w and wide % w != 0
                        seen["stairs taken back"] += wide < w and w % wide != 0
        self.assertGreater(min(seen.values()), 30)

    def test_what_holds(self):
        for corners in range(3, 9):
            for w, figure in self.figures(corners, 14, 7 * corners, 4):
                with self.subTest(w=w, figure=figure):
                    self.check_holds(w, figure)

    def test_too_much_by_the_words(self):
        seen = {True: 0, False: 0}
        for corners in range(3, 9):
            for k, figure in enumerate(helper.various_figures(4, corners, 25, 900 + corners)):
                w = (1, 2, 6, 19)[k]
                too_much = bool(reasons(w, figure)) or len(strip_by_the_words(w, figure)) > 160
                seen[too_much] += 1
                self.assertEqual(too_much, call(w, figure) == [-28], (w, figure))
        self.assertGreater(min(seen.values()), 3)


class TooMuch(Case):
    def check_only(self, w, corners, *told):
        """That it's too much for these reasons alone: but for them it would have 160 parts at most."""
        self.assertTrue(helper.is_figure(corners))
        self.assertEqual(list(told), reasons(w, corners))
        self.assertLessEqual(len(strip_by_the_words(w, corners)), 160)
        self.assertEqual([-28], call(w, corners))

    def test_sheared_by_60(self):
        for shear, corners in ((-60, [(-50, 0), (16, 12), (10, 11)]), (60, [(-10, 7), (50, 0), (-18, 8)])):
            self.assertIn(shear, shears_of(corners))
            self.check_words(1, corners)

    def test_sheared_by_more_than_60(self):
        for shear, corners in ((-61, [(-50, 0), (13, 42), (11, 41)]), (61, [(-11, 11), (50, 0), (-16, 12)])):
            self.assertIn(shear, shears_of(corners))
            self.check_only(1, corners, "shear")

    def test_sheared_by_far_more_than_60(self):
        for corners in ([(-50, 0), (17, 2), (50, 3)], [(50, 0), (-50, 3), (-17, 2)]):
            self.assertTrue(helper.is_figure(corners))
            self.assertGreater(max(map(abs, shears_of(corners))), 60)
            for w in (1, 2, 20):
                self.assertEqual([-28], call(w, corners))

    def test_60_times_w(self):
        self.check_words(1, [(-30, 0), (30, 0), (-30, 7)])
        self.check_words(1, upright(30, 4))
        self.check_holds(1, upright(30, 4))

    def test_more_than_60_times_w(self):
        self.check_only(1, [(-30, 0), (31, 0), (-30, 7)], "wide")
        self.check_only(1, [(-30, 0), (0, 0), (1, 3), (-30, 3)], "wide")
        self.check_only(1, upright(31, 4), "wide")
        self.check_only(1, upright(50, 1), "wide")
        self.assertEqual([121], widths_of([(-30, 0), (30, 0), (31, 3), (-30, 3)]))
        self.check_only(2, [(-30, 0), (30, 0), (31, 3), (-30, 3)], "wide")

    def test_w_60_times_that(self):
        corners = [(0, -49), (1, 11), (-5, 11), (-5, -48), (0, -48)]
        self.assertEqual(Fraction(1, 60), min(widths_of(corners)))
        self.check_words(1, corners)

    def test_w_more_than_60_times_that(self):
        corners = [(0, -50), (1, 11), (-5, 11), (-5, -49), (0, -49)]
        self.assertEqual(Fraction(1, 61), min(widths_of(corners)))
        self.check_only(1, corners, "narrow")
        for w in (2, 3, 20):
            self.assertEqual([-28], call(w, [(0, 0), (1, 50), (0, 1)]))

    def test_160_parts(self):
        for w, corners in (
            (1, [(33, -42), (-43, 37), (-50, 43)]),
            (1, [(19, 14), (-6, 16), (3, -15), (13, -15)]),
            (7, [(15, -17), (16, -9), (17, -13), (13, 13), (-3, -13), (-13, -18)]),
        ):
            self.assertEqual(160, len(self.check_words(w, corners)))
        self.check_holds(7, [(36, -50), (23, 14), (44, 19), (7, 19), (15, 3), (-43, 40), (-19, 15), (-39, -44)])

    def test_161_parts(self):
        for w, corners in (
            (1, [(17, 1), (-18, 18), (9, -2), (20, -11)]),
            (1, [(10, 10), (-2, 4), (5, 3), (20, -1)]),
            (2, [(24, 27), (26, -18), (6, -12), (34, -44), (41, -10)]),
        ):
            self.assertEqual([], reasons(w, corners))
            self.assertEqual(161, len(strip_by_the_words(w, corners)))
            self.assertEqual([-28], call(w, corners))

    def test_160_parts_of_a_figure_not_of_a_slice(self):
        # Each of its slices by itself has fewer.
        corners = [(24, 27), (26, -18), (6, -12), (34, -44), (41, -10)]
        told = slices_of(corners)
        self.assertGreater(len(told), 1)
        counts = []
        for points in told:
            o, wide, v = four_of(points)
            parts = helper.parts_behind(halves_of(points), sheared(o, wide, v, -v[0] / wide))
            counts.append(len(widened(slid_on(parts, -o[0], -o[1]), wide, v[1], 2)))
        self.assertLess(max(counts), 160)
        self.assertEqual(161, sum(counts))


class Refused(unittest.TestCase):
    GOOD = [0, 0, 4, 0, 1, 3]
    WIDE = [-50, 0, 50, 0, -50, 7]
    WRONG = [
        [], [0], [0, 0], [0, 0, 4, 0], [0, 0, 4, 0, 1], [0, 0, 4, 0, 1, 3, 0], [0] * 6, [0] * 16, [0] * 17,
        [0, 0, 1, 3, 4, 0], [0, 0, 2, 0, 4, 0, 1, 3], [0, 0, 4, 0, 2, 0, 1, 3], [0, 0, 4, 0, 4, 0, 1, 3],
        [0, 0, 1, 1, 2, 2], [0, 0, 4, 4, 4, 0, 0, 4], [0, 6, -4, -5, 6, 2, -6, 2, 4, -5],
        [0, 0, 6, 0, 6, 4, 3, 0, 0, 4], [0, 0, 4, -2, 4, 2, 0, 0, -4, 2, -4, -2],
        [0, 0, 4, 0, 6, 1, 7, 3, 6, 5, 4, 6, 0, 6, -1, 4, -1, 2],
        [0, 0, 51, 0, 1, 3], [0, 0, 4, 0, 1, 51], [-51, 0, 4, 0, 1, 3], [0, -51, 4, 0, 1, 3],
        [0, 0, helper.LARGEST, 0, 0, 1], [0, 0, 1, 0, 0, helper.LARGEST], [-helper.LARGEST, 0, 4, 0, 1, 3],
        [helper.LARGEST] * 6, [0] * 4000, [helper.LARGEST] * 3999, [0, 0, 4, 0, 1, 3] * 600,
        [k % 101 - 50 for k in range(4000)],
    ]

    def test_good_one_is_not_refused(self):
        for w in range(1, 21):
            self.assertGreater(strip(w, self.GOOD)[0], 0)

    def test_w_beyond_1_to_20(self):
        for w in (0, 21, 22, 60, 256, 2 ** 31, 4294967294, 4294967295):
            self.assertEqual([-22], strip(w, self.GOOD))

    def test_no_figure(self):
        for f in self.WRONG:
            for w in (1, 3, 20):
                self.assertEqual([-22], strip(w, f))

    def test_w_and_f_wrong(self):
        for f in self.WRONG:
            for w in (0, 21, 4294967295):
                self.assertEqual([-22], strip(w, f))

    def test_the_refusal_told_first(self):
        self.assertEqual([-28], strip(1, self.WIDE))
        for w in (0, 21, 4294967295):
            self.assertEqual([-22], strip(w, self.WIDE))
        # Too wide, but gone round on the right.
        self.assertEqual([-22], strip(1, [-50, 0, -50, 7, 50, 0]))


class HandedIn(unittest.TestCase):
    def test_list_stays_and_a_second_call_answers_as_the_first(self):
        for w in (0, 1, 3, 20, 21):
            for corners in (LEANING, ARROW, TOWERS, LEANING[::-1], [(-50, 0), (50, 0), (-50, 7)], []):
                helper.check_handed_in(self, lambda f: strip(w, f), helper.row_of(corners))


if __name__ == "__main__":
    unittest.main()
