"""halved: slices of each kind, how the parts are told, and that they make what has four sides."""

import unittest
from fractions import Fraction

from stripcut.strips import halved, slices
from tests import helper

HALF = Fraction(1, 2)


def four_sides(told):
    """What the halved slice makes: o, o and u, o and u and v, o and v."""
    left_below, right_below, right_above, left_above = told
    o = left_below
    length = right_below[0] - left_below[0] + right_above[0] - left_above[0]
    v = ((left_above[0] - o[0]) * HALF, (left_above[1] - o[1]) * HALF)
    return [o, (o[0] + length, o[1]), (o[0] + length + v[0], o[1] + v[1]), (o[0] + v[0], o[1] + v[1])]


class KnownSlices(unittest.TestCase):
    def check(self, told, lower, upper, slid):
        answer = helper.cutting_row((lower, 0, (0, 0)), (upper, 1, slid))
        self.assertEqual(answer, halved(helper.flat(*told)))

    def test_numbers_one_by_one(self):
        self.assertEqual(
            [2,
             4, 0, 1, 0, 1, 4, 1, 0, 1, 7, 2, 1, 1, 1, 2, 1, 1, 0, 0, 1, 0, 1,
             4, 1, 2, 1, 1, 7, 2, 1, 1, 3, 1, 2, 1, 1, 1, 2, 1, 1, 7, 1, 2, 1],
            halved([0, 1, 0, 1, 4, 1, 0, 1, 3, 1, 2, 1, 1, 1, 2, 1]),
        )

    def test_upright(self):
        self.check(
            [(1, 2), (4, 2), (4, 4), (1, 4)],
            [(1, 2), (4, 2), (4, 3), (1, 3)],
            [(1, 3), (4, 3), (4, 4), (1, 4)],
            (8, 6),
        )

    def test_leaning_left(self):
        self.check(
            [(4, 0), (6, 0), (3, 2), (0, 2)],
            [(2, 1), (4, 0), (6, 0), (Fraction(9, 2), 1)],
            [(0, 2), (2, 1), (Fraction(9, 2), 1), (3, 2)],
            (9, 2),
        )

    def test_leaning_right(self):
        self.check(
            [(0, 0), (2, 0), (6, 2), (4, 2)],
            [(0, 0), (2, 0), (4, 1), (2, 1)],
            [(2, 1), (4, 1), (6, 2), (4, 2)],
            (8, 2),
        )

    def test_one_point_below(self):
        self.check(
            [(2, 0), (2, 0), (6, 2), (0, 2)],
            [(1, 1), (2, 0), (4, 1)],
            [(0, 2), (1, 1), (4, 1), (6, 2)],
            (8, 2),
        )

    def test_one_point_below_upright_on_the_left(self):
        self.check(
            [(0, 0), (0, 0), (2, 2), (0, 2)],
            [(0, 0), (1, 1), (0, 1)],
            [(0, 1), (1, 1), (2, 2), (0, 2)],
            (2, 2),
        )

    def test_one_point_above(self):
        self.check(
            [(0, 0), (4, 0), (2, 2), (2, 2)],
            [(0, 0), (4, 0), (3, 1), (1, 1)],
            [(1, 1), (3, 1), (2, 2)],
            (6, 2),
        )

    def test_one_point_above_far_on_the_left(self):
        self.check(
            [(0, 0), (4, 0), (-4, 2), (-4, 2)],
            [(-2, 1), (0, 0), (4, 0), (0, 1)],
            [(-4, 2), (-2, 1), (0, 1)],
            (0, 2),
        )

    def test_fractions_in_lowest_terms(self):
        self.check(
            [(Fraction(1, 3), Fraction(-1, 2)), (Fraction(2, 3), Fraction(-1, 2)), (1, HALF), (Fraction(-1, 3), HALF)],
            [(0, 0), (Fraction(1, 3), -HALF), (Fraction(2, 3), -HALF), (Fraction(5, 6), 0)],
            [(Fraction(-1, 3), HALF), (0, 0), (Fraction(5, 6), 0), (1, HALF)],
            (Fraction(5, 3), 0),
        )

    def test_slid_by_nothing_and_turned(self):
        self.check(
            [(-3, -1), (-1, -1), (1, 1), (0, 1)],
            [(-3, -1), (-1, -1), (0, 0), (Fraction(-3, 2), 0)],
            [(Fraction(-3, 2), 0), (0, 0), (1, 1), (0, 1)],
            (0, 0),
        )


class ManySlices(unittest.TestCase):
    def check(self, told):
        parts = helper.read_cutting(self, halved(helper.flat(*told)))
        self.assertEqual(2, len(parts))
        for part in parts:
            helper.check_piece(self, part[0])
        helper.check_fills(self, [part[0] for part in parts], told)
        helper.check_fills(self, [helper.moved(part) for part in parts], four_sides(told))
        self.check_cut_and_moves(told, parts)

    def check_cut_and_moves(self, told, parts):
        left_below, right_below, right_above, left_above = told
        height = (left_below[1] + left_above[1]) * HALF
        (lower, stays, nowhere), (upper, turned, slid) = parts
        self.assertEqual({left_below[1], height}, {y for x, y in lower})
        self.assertEqual({height, left_above[1]}, {y for x, y in upper})
        self.assertEqual((0, (0, 0)), (stays, nowhere))
        self.assertEqual((1, (right_below[0] + right_above[0], 2 * height)), (turned, slid))
        # The middle of the right side is what the turn leaves where it is.
        centre = ((right_below[0] + right_above[0]) * HALF, height)
        self.assertIn(centre, lower)
        self.assertIn(centre, upper)
        self.assertEqual(centre, (slid[0] - centre[0], slid[1] - centre[1]))

    def various_slice(self, numbers, below, above):
        def fraction():
            return Fraction(numbers.between(-40, 40), numbers.between(1, 12))

        def length(some):
            return Fraction(numbers.between(1, 40), numbers.between(1, 12)) if some else 0

        low, left, left_above = fraction(), fraction(), fraction()
        high = low + length(True)
        return [(left, low), (left + length(below), low), (left_above + length(above), high), (left_above, high)]

    def test_various_slices_of_each_kind(self):
        numbers = helper.Numbers(11)
        for below, above in ((True, True), (False, True), (True, False)):
            for _ in range(150):
                told = self.various_slice(numbers, below, above)
                with self.subTest(told=told):
                    self.check(told)

    def test_small_whole_slices(self):
        for left in range(-3, 4):
            for wide in range(3):
                for wide_above in range(3):
                    if wide + wide_above > 0:
                        self.check([(0, 0), (wide, 0), (left + wide_above, 1), (left, 1)])

    def test_slices_of_figures(self):
        for corners in range(3, 9):
            for figure in helper.various_figures(4, corners, 50, corners):
                for told in helper.read_slices(self, slices(helper.row_of(figure))):
                    self.check(told)

    def test_numbers_of_the_largest_size(self):
        large = helper.LARGEST
        self.check([(-large, -large), (large, -large), (large, large), (-large, large)])
        tiny, other = Fraction(1, large), Fraction(-1, large - 1)
        self.check([(other, other), (tiny, other), (tiny, tiny), (other, tiny)])
        self.check([(large, 0), (large, 0), (Fraction(large, large - 1), tiny), (-large, tiny)])


class Refused(unittest.TestCase):
    GOOD = [0, 1, 0, 1, 4, 1, 0, 1, 3, 1, 2, 1, 1, 1, 2, 1]

    def check(self, row):
        self.assertEqual([-22], halved(row))

    def check_points(self, *points):
        self.check(helper.flat(*points))

    def changed(self, k, *values):
        return self.GOOD[:k] + list(values) + self.GOOD[k + len(values):]

    def test_good_one_is_not_refused(self):
        self.assertEqual(2, halved(self.GOOD)[0])

    def test_another_count_of_numbers(self):
        for count in range(16):
            self.check(self.GOOD[:count])
        for count in range(1, 17):
            self.check(self.GOOD + self.GOOD[:count])

    def test_long_lists(self):
        self.check([1] * 4000)
        self.check(self.GOOD * 250)
        self.check([helper.LARGEST] * 3999)

    def test_second_number_below_1(self):
        for k in range(1, 16, 2):
            for value in (0, -1, -2, -helper.LARGEST):
                self.check(self.changed(k, value))

    def test_second_number_0_far_out(self):
        # Taken as endlessly far to the side where it hurts no order, these are no fractions all the same.
        for k, first in ((0, -1), (4, 1), (8, 1), (12, -1)):
            self.check(self.changed(k, first, 0))
        self.check([0, 1, -1, 0, 4, 1, -1, 0, 3, 1, 2, 1, 1, 1, 2, 1])
        self.check([0, 1, 0, 1, 4, 1, 0, 1, 3, 1, 1, 0, 1, 1, 1, 0])

    def test_both_numbers_of_the_other_sign(self):
        for k in range(0, 16, 2):
            self.check(self.changed(k, -self.GOOD[k], -1))

    def test_something_in_common(self):
        for k in range(0, 16, 2):
            self.check(self.changed(k, 2 * self.GOOD[k], 2))
            self.check(self.changed(k, helper.LARGEST * self.GOOD[k], helper.LARGEST))
        self.check(self.changed(0, -6, 4))
        self.check(self.changed(8, 6, 4))

    def test_0_told_otherwise_than_0_and_1(self):
        for second in (0, 2, 3, -1, helper.LARGEST):
            self.check(self.changed(0, 0, second))

    def test_left_right_of_right(self):
        self.check_points((5, 0), (4, 0), (3, 2), (1, 2))
        self.check_points((0, 0), (4, 0), (1, 2), (3, 2))
        self.check_points((4, 0), (0, 0), (1, 2), (3, 2))
        third = Fraction(1, 3)
        self.check_points((third, 0), (Fraction(333, 1000), 0), (3, 2), (1, 2))
        self.check_points((0, 0), (4, 0), (Fraction(-1, 2), 2), (-third, 2))

    def test_heights_that_differ(self):
        self.check_points((0, 0), (4, 1), (3, 2), (1, 2))
        self.check_points((0, 1), (4, 0), (3, 2), (1, 2))
        self.check_points((0, 0), (4, 0), (3, 2), (1, 3))
        self.check_points((0, 0), (4, 0), (3, 3), (1, 2))
        self.check_points((0, 0), (4, Fraction(1, helper.LARGEST)), (3, 2), (1, 2))

    def test_above_not_higher_up(self):
        self.check_points((0, 0), (4, 0), (3, 0), (1, 0))
        self.check_points((0, 0), (4, 0), (3, -1), (1, -1))
        self.check_points((0, HALF), (4, HALF), (3, Fraction(1, 3)), (1, Fraction(1, 3)))

    def test_one_point_below_and_one_above(self):
        self.check_points((0, 0), (0, 0), (0, 2), (0, 2))
        self.check_points((0, 0), (0, 0), (5, 2), (5, 2))

    def test_points_from_another_one_on(self):
        points = [(0, 0), (4, 0), (3, 2), (1, 2)]
        for k in range(1, 4):
            self.check_points(*(points[k:] + points[:k]))
        self.check_points(*points[::-1])

    def test_numbers_of_the_largest_size(self):
        large = helper.LARGEST
        self.check([large] * 16)
        self.check([-large] * 16)
        self.check([large, 1] * 8)
        self.check([large, large - 1] * 8)


class HandedIn(unittest.TestCase):
    def test_list_stays_as_it_was(self):
        for row in (list(Refused.GOOD), [2, 4] * 8, []):
            before = list(row)
            halved(row)
            self.assertEqual(before, row)

    def test_second_call_answers_as_the_first(self):
        first = halved(list(Refused.GOOD))
        kept = list(first)
        first.append(7)
        halved([])
        halved(helper.flat((0, 0), (4, 0), (2, 2), (2, 2)))
        self.assertEqual(kept, halved(list(Refused.GOOD)))

    def test_answer_is_a_list_of_whole_numbers(self):
        for answer in (halved(list(Refused.GOOD)), halved([])):
            self.assertIs(list, type(answer))
            self.assertTrue(all(type(number) is int for number in answer))


if __name__ == "__main__":
    unittest.main()
