"""slices of what's no figure: the list of -22 alone."""

import itertools
import unittest

from stripcut.strips import slices
from tests import helper

REFUSED = [-22]


class Refused(unittest.TestCase):
    def check(self, *corners):
        self.assertEqual(REFUSED, slices(helper.row_of(corners)))

    def check_all_ways(self, *corners):
        """From each corner on, both ways round."""
        row = list(corners)
        for way in (row, row[::-1]):
            for k in range(len(way)):
                self.check(*(way[k:] + way[:k]))

    def test_no_numbers(self):
        self.assertEqual(REFUSED, slices([]))

    def test_odd_number_of_numbers(self):
        self.assertEqual(REFUSED, slices([0]))
        self.assertEqual(REFUSED, slices([0, 0, 4, 0, 4]))
        self.assertEqual(REFUSED, slices([0, 0, 4, 0, 4, 4, 0]))
        self.assertEqual(REFUSED, slices([0] * 17))

    def test_too_few_corners(self):
        self.check((0, 0))
        self.check((0, 0), (1, 0))

    def test_too_many_corners(self):
        # A figure with 8 corners, and one of the same kind with 9.
        eight = [(0, 0), (4, 0), (6, 1), (7, 3), (6, 5), (4, 6), (0, 6), (-1, 3)]
        self.assertNotEqual(REFUSED, slices(helper.row_of(eight)))
        nine = [(0, 0), (4, 0), (6, 1), (7, 3), (6, 5), (4, 6), (0, 6), (-1, 4), (-1, 2)]
        self.assertTrue(helper.is_figure(nine))
        self.check(*nine)

    def test_beyond_the_bounds(self):
        self.assertNotEqual(REFUSED, slices([-50, 50, -50, -50, 50, -50]))
        for k in range(6):
            row = [-50, 50, -50, -50, 50, -50]
            row[k] += 1 if row[k] > 0 else -1
            self.assertEqual(REFUSED, slices(row))
        self.check((0, 0), (51, 0), (0, 1))
        self.check((0, 0), (1, 0), (0, 51))
        self.check((-51, 0), (1, 0), (0, 1))
        self.check((0, -51), (1, 0), (0, 1))

    def test_gone_round_on_the_right(self):
        self.check((0, 0), (0, 4), (4, 0))
        self.check((0, 0), (0, 4), (4, 4), (4, 0))
        self.check((0, 4), (2, 4), (2, 2), (4, 2), (4, 4), (6, 4), (6, 0), (0, 0))

    def test_straight_corner(self):
        self.check_all_ways((0, 0), (2, 0), (4, 0), (0, 4))
        self.check_all_ways((0, 0), (4, 0), (2, 2), (0, 4))
        self.check_all_ways((0, 0), (4, 0), (4, 4), (0, 4), (0, 1))

    def test_all_on_one_line(self):
        self.check_all_ways((0, 0), (1, 1), (2, 2))
        self.check_all_ways((0, 0), (1, 0), (2, 0), (3, 0))

    def test_turning_back(self):
        self.check_all_ways((0, 0), (4, 0), (2, 0), (0, 4))
        self.check_all_ways((0, 0), (4, 0), (6, 0), (4, 0), (0, 4))
        self.check_all_ways((0, 0), (6, 0), (4, 0), (4, 4), (0, 4))

    def test_same_corner_twice_in_a_row(self):
        self.check_all_ways((0, 0), (0, 0), (4, 0), (0, 4))
        self.check_all_ways((1, 1), (1, 1), (1, 1))

    def test_same_corner_twice_apart(self):
        self.check_all_ways((0, 0), (4, -2), (4, 2), (0, 0), (-4, 2), (-4, -2))
        self.check_all_ways((0, 0), (4, 0), (4, 4), (2, 1), (0, 4), (2, 1))

    def test_sides_that_cross(self):
        self.check_all_ways((0, 0), (4, 4), (4, 0), (0, 4))
        self.check_all_ways((0, 0), (6, 0), (6, 4), (2, -2), (0, 4))
        # A star: its size, counted round by round, is above 0 one way.
        self.check_all_ways((0, 6), (-4, -5), (6, 2), (-6, 2), (4, -5))

    def test_crossing_of_first_and_last_sides_but_one(self):
        self.check_all_ways((0, 0), (6, 0), (6, 6), (1, 6), (2, -1), (0, 3))

    def test_corner_on_another_side(self):
        self.check_all_ways((0, 0), (6, 0), (6, 4), (3, 0), (0, 4))
        self.check_all_ways((0, 0), (4, 0), (4, 4), (2, 2), (0, 4), (-2, 6), (4, 0))
        self.check_all_ways((0, 0), (6, 2), (6, 6), (3, 1), (0, 6))

    def test_sides_lying_on_each_other(self):
        self.check_all_ways((0, 0), (6, 0), (6, 4), (4, 0), (2, 0), (0, 4))
        self.check_all_ways((0, 0), (4, 0), (4, 3), (6, 0), (2, 0), (0, 3))

    def test_sides_on_one_line_apart_are_no_fault(self):
        for corners in (
            [(0, 0), (2, 0), (3, 1), (4, 0), (6, 0), (6, 4), (0, 4)],
            [(0, 0), (3, 0), (3, 6), (0, 6), (0, 4), (1, 3), (0, 2)],
            [(0, 0), (2, 2), (2, 3), (3, 3), (5, 5), (0, 5)],
        ):
            self.assertTrue(helper.is_figure(corners))
            self.assertGreater(slices(helper.row_of(corners))[0], 0)

    def test_numbers_of_the_largest_size(self):
        large = helper.LARGEST
        self.check((0, 0), (large, 0), (0, large))
        self.check((-large, -large), (large, -large), (large, large), (-large, large))
        for k in range(6):
            for value in (large, -large, 2 ** 64, -2 ** 64):
                row = [0, 0, 4, 0, 0, 4]
                row[k] = value
                self.assertEqual(REFUSED, slices(row))

    def test_long_lists(self):
        self.assertEqual(REFUSED, slices([0] * 4000))
        self.assertEqual(REFUSED, slices([1] * 3999))
        self.assertEqual(REFUSED, slices([helper.LARGEST] * 4000))
        self.assertEqual(REFUSED, slices([0, 0, 4, 0, 4, 4, 0, 4] * 500))
        self.assertEqual(REFUSED, slices([k % 101 - 50 for k in range(4000)]))


class ByTheWords(unittest.TestCase):
    """Each row on a small grid is refused or not as the document's words, gone through apart, ask."""

    def check_each(self, grid, count):
        figures = 0
        for corners in itertools.product(grid, repeat=count):
            told = slices(helper.row_of(corners))
            if helper.is_figure(list(corners)):
                figures += 1
                self.assertGreater(told[0], 0, corners)
            else:
                self.assertEqual(REFUSED, told, corners)
        self.assertGreater(figures, 0)

    def test_three_corners(self):
        self.check_each(list(itertools.product(range(4), repeat=2)), 3)

    def test_four_corners(self):
        self.check_each(list(itertools.product(range(3), repeat=2)), 4)

    def test_five_corners(self):
        self.check_each([(0, 0), (1, 0), (2, 0), (0, 1), (1, 1), (2, 2), (0, 2)], 5)

    def test_various_rows(self):
        numbers = helper.Numbers(5)
        for k in range(4000):
            count = numbers.between(3, 8)
            row = [(numbers.between(-4, 4), numbers.between(-4, 4)) for _ in range(count)]
            told = slices(helper.row_of(row))
            self.assertEqual(helper.is_figure(row), told != REFUSED, row)


if __name__ == "__main__":
    unittest.main()
