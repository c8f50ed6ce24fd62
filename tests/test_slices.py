"""slices: ordinary figures, the corners that the document names, and that slices have all of the size."""

import unittest
from fractions import Fraction

from stripcut.strips import slices
from tests import helper

EIGHT_CORNERS_U = [(0, 0), (6, 0), (6, 4), (4, 4), (4, 2), (2, 2), (2, 4), (0, 4)]


def expected(*told):
    row = [len(told)]
    for points in told:
        row += helper.flat(*points)
    return row


def inner_spans(corners, height):
    """Where a level line that meets no corner runs within the figure."""
    cuts = []
    for (ax, ay), (bx, by) in helper.around(corners):
        if (ay < height) != (by < height):
            cuts.append(ax + Fraction(height - ay) * (bx - ax) / (by - ay))
    cuts.sort()
    return list(zip(cuts[::2], cuts[1::2]))


def span_at(told, share):
    left_below, right_below, right_above, left_above = told
    return (
        left_below[0] + share * (left_above[0] - left_below[0]),
        right_below[0] + share * (right_above[0] - right_below[0]),
    )


class KnownFigures(unittest.TestCase):
    def check(self, corners, *told):
        self.assertEqual(expected(*told), slices(helper.row_of(corners)))

    def test_upright_square_is_one_slice(self):
        self.check([(0, 0), (3, 0), (3, 2), (0, 2)], [(0, 0), (3, 0), (3, 2), (0, 2)])

    def test_begun_with_any_corner(self):
        corners = [(0, 0), (3, 0), (3, 2), (0, 2)]
        for k in range(4):
            self.check(corners[k:] + corners[:k], corners)

    def test_numbers_one_by_one(self):
        self.assertEqual(
            [1, -1, 1, 0, 1, 1, 1, 0, 1, 0, 1, 2, 1, 0, 1, 2, 1],
            slices([-1, 0, 1, 0, 0, 2]),
        )

    def test_one_point_above(self):
        self.check([(-1, 0), (5, 0), (2, 3)], [(-1, 0), (5, 0), (2, 3), (2, 3)])

    def test_one_point_below(self):
        self.check([(2, -3), (5, 0), (-1, 0)], [(2, -3), (2, -3), (5, 0), (-1, 0)])

    def test_points_that_are_no_whole_numbers(self):
        third = Fraction(1, 3)
        self.check(
            [(0, 0), (5, 1), (1, 3)],
            [(0, 0), (0, 0), (5, 1), (third, 1)],
            [(third, 1), (5, 1), (1, 3), (1, 3)],
        )

    def test_fraction_below_0_and_lowest_terms(self):
        self.check(
            [(0, 0), (1, 2), (-2, 6)],
            [(0, 0), (0, 0), (1, 2), (Fraction(-2, 3), 2)],
            [(Fraction(-2, 3), 2), (1, 2), (-2, 6), (-2, 6)],
        )

    def test_slanted_side_through_0(self):
        self.check(
            [(-2, -2), (3, 0), (2, 2)],
            [(-2, -2), (-2, -2), (3, 0), (0, 0)],
            [(0, 0), (3, 0), (2, 2), (2, 2)],
        )

    def test_several_corners_at_one_height(self):
        self.check(
            [(0, 0), (4, 3), (0, 6), (-4, 3)],
            [(0, 0), (0, 0), (4, 3), (-4, 3)],
            [(-4, 3), (4, 3), (0, 6), (0, 6)],
        )

    def test_five_corners(self):
        self.check(
            [(0, 0), (4, 0), (5, 2), (2, 4), (-1, 2)],
            [(0, 0), (4, 0), (5, 2), (-1, 2)],
            [(-1, 2), (5, 2), (2, 4), (2, 4)],
        )

    def test_six_corners_with_a_level_side_within(self):
        self.check(
            [(0, 0), (4, 0), (4, 1), (2, 1), (2, 3), (0, 3)],
            [(0, 0), (4, 0), (4, 1), (0, 1)],
            [(0, 1), (2, 1), (2, 3), (0, 3)],
        )

    def test_seven_corners(self):
        self.check(
            [(0, 0), (6, 0), (6, 4), (4, 4), (3, 2), (2, 4), (0, 4)],
            [(0, 0), (6, 0), (6, 2), (0, 2)],
            [(0, 2), (3, 2), (2, 4), (0, 4)],
            [(3, 2), (6, 2), (6, 4), (4, 4)],
        )

    def test_eight_corners_two_slices_beside_each_other(self):
        self.check(
            EIGHT_CORNERS_U,
            [(0, 0), (6, 0), (6, 2), (0, 2)],
            [(0, 2), (2, 2), (2, 4), (0, 4)],
            [(4, 2), (6, 2), (6, 4), (4, 4)],
        )

    def test_two_slices_beside_each_other_below(self):
        self.check(
            [(0, 4), (0, 0), (2, 0), (2, 2), (4, 2), (4, 0), (6, 0), (6, 4)],
            [(0, 0), (2, 0), (2, 2), (0, 2)],
            [(4, 0), (6, 0), (6, 2), (4, 2)],
            [(0, 2), (6, 2), (6, 4), (0, 4)],
        )

    def test_inner_corner_on_the_right(self):
        self.check(
            [(0, 0), (4, 0), (1, 2), (4, 4), (0, 4)],
            [(0, 0), (4, 0), (1, 2), (0, 2)],
            [(0, 2), (1, 2), (4, 4), (0, 4)],
        )

    def test_inner_corner_from_above(self):
        self.check(
            [(0, 0), (4, 4), (0, 1), (-4, 4)],
            [(0, 0), (0, 0), (1, 1), (-1, 1)],
            [(-1, 1), (0, 1), (-4, 4), (-4, 4)],
            [(0, 1), (1, 1), (4, 4), (4, 4)],
        )

    def test_inner_corner_from_below(self):
        self.check(
            [(-4, 0), (0, 3), (4, 0), (0, 4)],
            [(-4, 0), (-4, 0), (0, 3), (-1, 3)],
            [(4, 0), (4, 0), (1, 3), (0, 3)],
            [(-1, 3), (1, 3), (0, 4), (0, 4)],
        )

    def test_out_to_the_bounds(self):
        corners = [(-50, -50), (50, -50), (50, 50), (-50, 50)]
        self.check(corners, corners)

    def test_leaning_far_within_a_narrow_band(self):
        self.check(
            [(-50, -50), (50, 49), (50, 50)],
            [(-50, -50), (-50, -50), (50, 49), (49, 49)],
            [(49, 49), (50, 49), (50, 50), (50, 50)],
        )


class ManyFigures(unittest.TestCase):
    def check(self, corners):
        row = helper.row_of(corners)
        told = helper.read_slices(self, slices(row))
        self.assertEqual(helper.size(corners), sum(helper.size(points) for points in told))
        heights = sorted({corner[1] for corner in corners})
        bands = {}
        for left_below, right_below, right_above, left_above in told:
            self.assertEqual(left_below[1], right_below[1])
            self.assertEqual(left_above[1], right_above[1])
            band = (left_below[1], left_above[1])
            bands.setdefault(band, []).append((left_below, right_below, right_above, left_above))
        # A dict keeps the order in which the bands came: from below on.
        self.assertEqual(list(zip(heights, heights[1:])), list(bands))
        self.assertEqual(told, [list(points) for band in bands.values() for points in band])
        for (low, high), found in bands.items():
            for share in (Fraction(1, 4), Fraction(1, 2), Fraction(7, 9)):
                spans = inner_spans(corners, low + share * (high - low))
                self.assertEqual(spans, [span_at(points, share) for points in found])

    def test_various_figures_of_each_count_of_corners(self):
        for corners in range(3, 9):
            for reach in (3, 50):
                if reach == 3 and corners > 6:
                    continue
                for figure in helper.various_figures(15, corners, reach, 100 * corners + reach):
                    with self.subTest(figure=figure):
                        self.check(figure)

    def test_named_figures(self):
        self.check(EIGHT_CORNERS_U)
        # Three peaks, each of another height: three slices beside each other.
        self.check([(0, 0), (9, 0), (8, 5), (6, 2), (5, 7), (3, 1), (1, 6)])
        # A hook that turns in.
        self.check([(0, 0), (8, 0), (8, 6), (2, 6), (2, 3), (5, 4), (4, 2), (0, 2)])


class HandedIn(unittest.TestCase):
    def test_list_stays_as_it_was(self):
        for row in (helper.row_of(EIGHT_CORNERS_U), [0, 0, 1, 1, 2, 2], []):
            before = list(row)
            slices(row)
            self.assertEqual(before, row)

    def test_second_call_answers_as_the_first(self):
        row = helper.row_of(EIGHT_CORNERS_U)
        first = slices(row)
        kept = list(first)
        first.append(7)
        slices([0, 0, 0, 1])
        slices([0, 0, 5, 1, 1, 3])
        self.assertEqual(kept, slices(row))

    def test_answer_is_a_list_of_whole_numbers(self):
        for answer in (slices([0, 0, 5, 1, 1, 3]), slices([])):
            self.assertIs(list, type(answer))
            self.assertTrue(all(type(number) is int for number in answer))


if __name__ == "__main__":
    unittest.main()
