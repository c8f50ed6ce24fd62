"""shear: by 0, by whole numbers and fractions; how the parts are told, and that they make what's sheared."""

import unittest
from fractions import Fraction
from math import ceil

from stripcut.strips import shear
from tests import helper

HALF = Fraction(1, 2)
THIRD = Fraction(1, 3)
SQUARE = ((0, 0), (1, 0), (0, 1))
# u level and not, v upright and leaning, o at 0, 0 and elsewhere, numbers whole and not.
SOME = [
    SQUARE,
    ((3, -2), (4, 0), (1, 2)),
    ((-5, 7), (0, 3), (-2, 1)),
    ((HALF, THIRD), (2, 1), (-1, 1)),
    ((Fraction(-7, 3), 0), (-3, -1), (1, Fraction(-5, 2))),
    ((0, Fraction(9, 4)), (-2, 0), (5, -3)),
    ((1, 1), (Fraction(3, 7), Fraction(-2, 5)), (0, Fraction(1, 9))),
]


def call(four, k):
    return shear(helper.flat(*four), [Fraction(k).numerator, Fraction(k).denominator])


def along(point, factor, way):
    return (point[0] + factor * way[0], point[1] + factor * way[1])


def corners_of(o, u, v):
    return [o, along(o, 1, u), along(along(o, 1, u), 1, v), along(o, 1, v)]


class KnownShears(unittest.TestCase):
    def check(self, four, k, *parts):
        self.assertEqual(helper.cutting_row(*parts), call(four, k))

    def test_numbers_one_by_one(self):
        self.assertEqual(
            [2,
             3, 1, 2, 5, 1, 1, 1, 2, 1, 3, 2, 5, 1, 0, 3, 1, 0, 1,
             4, 1, 1, 2, 1, 4, 1, 2, 1, 7, 2, 5, 1, 3, 2, 5, 1, 0, 0, 1, 0, 1],
            shear([1, 1, 2, 1, 3, 1, 0, 1, -1, 2, 3, 1], [1, 3]),
        )

    def test_by_0_all_stays(self):
        self.check(SQUARE, 0, ([(0, 0), (1, 0), (1, 1), (0, 1)], 0, (0, 0)))
        self.check(((2, 3), (0, 2), (-1, -5)), 0, ([(1, -2), (2, 3), (2, 5), (1, 0)], 0, (0, 0)))

    def test_by_1(self):
        self.check(
            SQUARE, 1,
            ([(0, 0), (1, 1), (0, 1)], 0, (1, 0)),
            ([(0, 0), (1, 0), (1, 1)], 0, (0, 0)),
        )

    def test_by_1_back(self):
        self.check(
            SQUARE, -1,
            ([(0, 0), (1, 0), (0, 1)], 0, (0, 0)),
            ([(0, 1), (1, 0), (1, 1)], 0, (-1, 0)),
        )

    def test_by_2(self):
        self.check(
            SQUARE, 2,
            ([(0, HALF), (1, 1), (0, 1)], 0, (2, 0)),
            ([(0, 0), (1, HALF), (1, 1), (0, HALF)], 0, (1, 0)),
            ([(0, 0), (1, 0), (1, HALF)], 0, (0, 0)),
        )

    def test_by_2_back(self):
        self.check(
            SQUARE, -2,
            ([(0, 0), (1, 0), (0, HALF)], 0, (0, 0)),
            ([(0, HALF), (1, 0), (1, HALF), (0, 1)], 0, (-1, 0)),
            ([(0, 1), (1, HALF), (1, 1)], 0, (-2, 0)),
        )

    def test_by_a_half(self):
        self.check(
            SQUARE, HALF,
            ([(0, 0), (HALF, 1), (0, 1)], 0, (1, 0)),
            ([(0, 0), (1, 0), (1, 1), (HALF, 1)], 0, (0, 0)),
        )

    def test_by_a_half_back(self):
        self.check(
            SQUARE, -HALF,
            ([(0, 0), (1, 0), (HALF, 1), (0, 1)], 0, (0, 0)),
            ([(HALF, 1), (1, 0), (1, 1)], 0, (-1, 0)),
        )

    def test_by_more_than_1_with_a_part_of_five_corners(self):
        self.check(
            SQUARE, Fraction(3, 2),
            ([(0, 2 * THIRD), (HALF, 1), (0, 1)], 0, (2, 0)),
            ([(0, 0), (1, 2 * THIRD), (1, 1), (HALF, 1), (0, 2 * THIRD)], 0, (1, 0)),
            ([(0, 0), (1, 0), (1, 2 * THIRD)], 0, (0, 0)),
        )

    def test_u_to_the_left(self):
        # Leftmost in the slid part is o and u, not o.
        self.check(
            ((0, 0), (-2, 0), (0, -2)), HALF,
            ([(-1, -2), (0, -2), (0, 0)], 0, (-2, 0)),
            ([(-2, -2), (-1, -2), (0, 0), (-2, 0)], 0, (0, 0)),
        )

    def test_u_upright(self):
        self.check(
            ((5, 1), (0, 3), (-1, 0)), -THIRD,
            ([(4, 1), (5, 1), (5, 4), (4, 3)], 0, (0, 0)),
            ([(4, 3), (5, 4), (4, 4)], 0, (0, -3)),
        )

    def test_slides_of_fractions(self):
        four = ((0, 0), (Fraction(2, 3), Fraction(-1, 6)), (0, 1))
        slides = [slid for piece, turned, slid in helper.read_cutting(self, call(four, -3))]
        self.assertEqual(
            [(0, 0), (-Fraction(2, 3), Fraction(1, 6)), (-Fraction(4, 3), THIRD), (-2, HALF)],
            slides,
        )


class WhatHolds(unittest.TestCase):
    def check(self, four, k):
        o, u, v = four
        parts = helper.read_cutting(self, call(four, k))
        old = corners_of(o, u, v)
        new = corners_of(o, u, along(v, k, u))
        for piece, turned, slid in parts:
            helper.check_piece(self, piece)
            self.assertEqual(0, turned)
        helper.check_fills(self, [part[0] for part in parts], old)
        helper.check_fills(self, [helper.moved(part) for part in parts], new)
        self.check_by_the_words(old, new, u, ceil(abs(k)) + 2, parts)

    def check_by_the_words(self, old, new, u, farthest, parts):
        # Slid farther than it's sheared and as wide as it is, the new one is past the old one.
        at = 0
        for j in range(-farthest, farthest + 1):
            there = [along(corner, j, u) for corner in new]
            if helper.common_size(old, there) == 0:
                continue
            piece, turned, slid = parts[at]
            helper.check_same_piece(self, piece, old, there)
            self.assertEqual((-j * u[0], -j * u[1]), slid)
            at += 1
        self.assertEqual(len(parts), at)

    def test_by_0(self):
        for four in SOME:
            self.assertEqual(1, call(four, 0)[0])
            self.check(four, 0)

    def test_by_whole_numbers(self):
        for four in SOME:
            for k in (1, 2, 3, 7, -1, -2, -3, -7):
                with self.subTest(four=four, k=k):
                    self.assertEqual(abs(k) + 1, call(four, k)[0])
                    self.check(four, k)

    def test_by_fractions(self):
        for four in SOME:
            for k in (HALF, THIRD, 2 * THIRD, 3 * HALF, 5 * THIRD, Fraction(17, 4), Fraction(999, 1000)):
                for way in (k, -k):
                    with self.subTest(four=four, k=way):
                        self.assertEqual(ceil(k) + 1, call(four, way)[0])
                        self.check(four, way)

    def test_just_beside_whole_numbers(self):
        tiny = Fraction(1, 10 ** 9)
        for k in (-2, -1, 0, 1, 2):
            for way in (k + tiny, k - tiny):
                self.assertEqual(ceil(abs(way)) + 1, call(SQUARE, way)[0])
                self.check(SQUARE, way)

    def test_by_60_either_way(self):
        for k in (60, -60):
            self.assertEqual(61, call(SOME[1], k)[0])
            self.check(SOME[1], k)

    def test_by_just_less_than_60(self):
        for k in (60 - THIRD, Fraction(-299, 5)):
            self.assertEqual(61, call(SOME[3], k)[0])
            self.check(SOME[3], k)

    def test_various(self):
        numbers = helper.Numbers(23)

        def fraction():
            return Fraction(numbers.between(-30, 30), numbers.between(1, 9))

        seen = 0
        while seen < 120:
            o, u, v = [(fraction(), fraction()) for _ in range(3)]
            if u[0] * v[1] - u[1] * v[0] > 0:
                seen += 1
                k = Fraction(numbers.between(-40, 40), numbers.between(1, 13))
                with self.subTest(o=o, u=u, v=v, k=k):
                    self.check((o, u, v), k)

    def test_numbers_of_the_largest_size(self):
        large = helper.LARGEST
        far = ((-large, large), (large, -large), (large, large))
        thin = ((Fraction(1, large), 0), (Fraction(large - 1, large - 2), 1), (Fraction(large, large - 1), 1))
        tiny = Fraction(1, large)
        for four in (far, thin):
            for k in (0, tiny, -tiny, Fraction(large, large - 1), Fraction(-large + 1, large), -2):
                with self.subTest(four=four, k=k):
                    self.check(four, k)
        # Near 60, with a first number of the largest size.
        self.assertEqual(61, call(far, Fraction(large, large // 60 + 1))[0])
        self.assertEqual(61, call(thin, Fraction(-large, large // 60 + 1))[0])


class NotAsTold(unittest.TestCase):
    GOOD = [0, 1, 0, 1, 4, 1, 0, 1, 1, 1, 3, 1]
    K = [1, 2]

    def check(self, g, k):
        self.assertEqual([-22], shear(g, k))

    def check_points(self, *points):
        self.check(helper.flat(*points), self.K)

    def changed(self, k, *values):
        return self.GOOD[:k] + list(values) + self.GOOD[k + len(values):]

    def test_good_ones_are_not_refused(self):
        self.assertEqual(2, shear(self.GOOD, self.K)[0])

    def test_g_of_another_count_of_numbers(self):
        for count in range(12):
            self.check(self.GOOD[:count], self.K)
            self.check(self.GOOD + self.GOOD[:count + 1], self.K)

    def test_k_of_another_count_of_numbers(self):
        self.check(self.GOOD, [])
        self.check(self.GOOD, [1])
        self.check(self.GOOD, [1, 2, 1])
        self.check(self.GOOD, [1, 2, 1, 2])

    def test_both_empty(self):
        self.check([], [])

    def test_long_lists(self):
        self.check([1] * 4000, self.K)
        self.check(self.GOOD * 333, self.K)
        self.check([helper.LARGEST] * 3999, self.K)
        self.check(self.GOOD, [1] * 4000)
        self.check(self.GOOD, self.K * 2000)
        self.check(self.GOOD, [-helper.LARGEST] * 3999)
        self.check([1] * 4000, [1] * 4000)

    def test_g_with_a_second_number_below_1(self):
        for k in range(1, 12, 2):
            for value in (0, -1, -2, -helper.LARGEST):
                self.check(self.changed(k, value), self.K)
        for k in range(0, 12, 2):
            self.check(self.changed(k, -self.GOOD[k], -1), self.K)
            self.check(self.changed(k, 1, 0), self.K)

    def test_k_with_a_second_number_below_1(self):
        for k in ([1, 0], [0, 0], [1, -1], [-1, -1], [0, -1], [1, -2], [-1, -2], [-1, -helper.LARGEST], [61, 0]):
            self.check(self.GOOD, k)

    def test_g_with_something_in_common(self):
        for k in range(0, 12, 2):
            self.check(self.changed(k, 2 * self.GOOD[k], 2), self.K)
            self.check(self.changed(k, 6, 4), self.K)
            self.check(self.changed(k, -6, 9), self.K)
            self.check(self.changed(k, helper.LARGEST, helper.LARGEST), self.K)

    def test_k_with_something_in_common(self):
        for k in ([2, 2], [2, 4], [-6, 4], [0, 2], [0, helper.LARGEST], [helper.LARGEST, helper.LARGEST]):
            self.check(self.GOOD, k)

    def test_v_on_the_right_of_u(self):
        self.check_points((0, 0), (1, 0), (0, -1))
        self.check_points((0, 0), (0, 1), (1, 0))
        self.check_points((5, 5), (-1, 0), (3, 2))
        self.check_points((0, 0), (1, Fraction(334, 1000)), (3, 1))
        self.assertEqual(2, shear(helper.flat((0, 0), (1, Fraction(333, 1000)), (3, 1)), self.K)[0])

    def test_v_along_u(self):
        self.check_points((0, 0), (1, 0), (1, 0))
        self.check_points((0, 0), (1, 0), (2, 0))
        self.check_points((0, 0), (1, 0), (-2, 0))
        self.check_points((1, 2), (3, -2), (Fraction(3, 2), -1))
        self.check_points((1, 2), (HALF, THIRD), (-3, -2))

    def test_u_or_v_of_no_length(self):
        self.check_points((0, 0), (0, 0), (0, 1))
        self.check_points((0, 0), (1, 0), (0, 0))
        self.check_points((3, 4), (0, 0), (0, 0))

    def test_only_the_ways_decide_not_o(self):
        # As corners, not as ways, these would lie otherwise.
        self.assertEqual(2, shear(helper.flat((9, 0), (1, 0), (0, 1)), self.K)[0])
        self.assertEqual(2, shear(helper.flat((0, 9), (1, 0), (0, 1)), self.K)[0])
        self.check_points((9, 0), (0, 1), (1, 0))
        self.check_points((0, 9), (0, 1), (1, 0))

    def test_numbers_of_the_largest_size(self):
        large = helper.LARGEST
        self.check([large] * 12, self.K)
        self.check([-large] * 12, self.K)
        self.check([large, 1] * 6, self.K)
        self.check([large, large - 1] * 6, [large, large - 1])
        self.check(self.GOOD, [large, large])
        self.check(self.GOOD, [large, -large])


class TooMuch(unittest.TestCase):
    GOOD = NotAsTold.GOOD
    LARGE = 2 ** 250 - 1

    def test_above_60_in_size(self):
        for k in ([61, 1], [-61, 1], [121, 2], [-121, 2], [60001, 1000], [-60001, 1000]):
            self.assertEqual([-28], shear(self.GOOD, k))

    def test_just_beyond_60(self):
        for sign in (1, -1):
            self.assertEqual([-28], shear(self.GOOD, [sign * (60 * self.LARGE + 1), self.LARGE]))
            self.assertEqual(61, shear(self.GOOD, [sign * (60 * self.LARGE - 1), self.LARGE])[0])
            self.assertEqual(61, shear(self.GOOD, [sign * 60, 1])[0])

    def test_numbers_of_the_largest_size(self):
        for k in ([helper.LARGEST, 1], [-helper.LARGEST, 1], [helper.LARGEST, 2], [-helper.LARGEST, 1024]):
            self.assertEqual([-28], shear(self.GOOD, k))

    def test_the_refusal_told_first(self):
        for g in ([], [0] * 12, self.GOOD[:11], helper.flat((0, 0), (1, 0), (0, -1)), [0, 2] + self.GOOD[2:]):
            for k in ([61, 1], [-121, 2], [helper.LARGEST, 1]):
                self.assertEqual([-22], shear(g, k))
        for k in ([122, 2], [-122, 2], [61, 0], [61, -1], [61], [61, 1, 61, 1]):
            self.assertEqual([-22], shear(self.GOOD, k))


class HandedIn(unittest.TestCase):
    def test_lists_stay_and_a_second_call_answers_as_the_first(self):
        good = NotAsTold.GOOD
        for g, k in (
            (list(good), [5, 3]), (list(good), [0, 1]), (list(good), [-60, 1]), (list(good), [61, 1]),
            (list(good), [2, 4]), (good[:7], [1, 2]), ([2, 4] * 6, [1, 1]), ([], []),
        ):
            helper.check_handed_in(self, shear, g, k)

    def test_one_list_handed_in_as_both(self):
        row = [1, 2]
        self.assertEqual([-22], shear(row, row))
        self.assertEqual([1, 2], row)


if __name__ == "__main__":
    unittest.main()
