"""stairs: how the three parts are told, c half of a, wrong inputs, and that the parts make what's c wide."""

import unittest
from fractions import Fraction

from stripcut.strips import stairs
from tests import helper

HALF = Fraction(1, 2)


def row(*values):
    return helper.flat(values)


def upright(wide, high):
    return [(0, 0), (wide, 0), (wide, high), (0, high)]


class KnownStairs(unittest.TestCase):
    def check(self, sizes, *parts):
        self.assertEqual(helper.cutting_row(*parts), stairs(row(*sizes)))

    def test_numbers_one_by_one(self):
        self.assertEqual(
            [3,
             5, 0, 1, 0, 1, 3, 1, 0, 1, 3, 1, 2, 3, 1, 1, 2, 1, 0, 1, 2, 1, 0, 0, 1, 0, 1,
             3, 3, 1, 0, 1, 4, 1, 0, 1, 3, 1, 2, 3, 0, -3, 1, 2, 1,
             3, 1, 1, 2, 1, 4, 1, 0, 1, 4, 1, 2, 1, 0, -1, 1, 2, 3],
            stairs([4, 1, 2, 1, 3, 1]),
        )

    def test_whole_numbers(self):
        self.check(
            (6, 4, 4),
            ([(0, 0), (4, 0), (4, 2), (2, 4), (0, 4)], 0, (0, 0)),
            ([(4, 0), (6, 0), (4, 2)], 0, (-4, 4)),
            ([(2, 4), (6, 0), (6, 4)], 0, (-2, 2)),
        )

    def test_c_half_of_a(self):
        self.check(
            (4, 3, 2),
            ([(0, 0), (2, 0), (2, 3), (0, 3)], 0, (0, 0)),
            ([(2, 0), (4, 0), (2, 3)], 0, (-2, 3)),
            ([(2, 3), (4, 0), (4, 3)], 0, (-2, 3)),
        )

    def test_c_half_of_a_with_fractions(self):
        third = Fraction(1, 3)
        self.check(
            (third, HALF, third / 2),
            ([(0, 0), (third / 2, 0), (third / 2, HALF), (0, HALF)], 0, (0, 0)),
            ([(third / 2, 0), (third, 0), (third / 2, HALF)], 0, (-third / 2, HALF)),
            ([(third / 2, HALF), (third, 0), (third, HALF)], 0, (-third / 2, HALF)),
        )

    def test_c_just_less_than_a(self):
        self.check(
            (100, 99, 99),
            ([(0, 0), (99, 0), (99, 1), (1, 99), (0, 99)], 0, (0, 0)),
            ([(99, 0), (100, 0), (99, 1)], 0, (-99, 99)),
            ([(1, 99), (100, 0), (100, 99)], 0, (-1, 1)),
        )

    def test_fractions(self):
        third, step = Fraction(1, 3), Fraction(2, 9)
        self.check(
            (5 * HALF, third, 3 * HALF),
            ([(0, 0), (3 * HALF, 0), (3 * HALF, step), (1, third), (0, third)], 0, (0, 0)),
            ([(3 * HALF, 0), (5 * HALF, 0), (3 * HALF, step)], 0, (-3 * HALF, third)),
            ([(1, third), (5 * HALF, 0), (5 * HALF, third)], 0, (-1, step)),
        )


class WhatHolds(unittest.TestCase):
    def check(self, a, b, c):
        a, b, c = Fraction(a), Fraction(b), Fraction(c)
        parts = helper.read_cutting(self, stairs(row(a, b, c)))
        self.assertEqual(3, len(parts))
        for piece, turned, slid in parts:
            helper.check_piece(self, piece)
            self.assertEqual(0, turned)
        self.assertEqual(4 if 2 * c == a else 5, len(parts[0][0]))
        d = a * b / c
        helper.check_fills(self, [part[0] for part in parts], upright(a, b))
        helper.check_fills(self, [helper.moved(part) for part in parts], upright(c, d))
        self.assertEqual([(0, 0), (-c, b), (c - a, d - b)], [slid for piece, turned, slid in parts])
        self.check_where(a, c, d, [part[0] for part in parts])

    def check_where(self, a, c, d, pieces):
        """On the told sides of the line from 0, d to a, 0 and of c; with all of the size, that makes them the parts."""
        first, second, third = pieces
        for corner in first + second:
            self.assertGreaterEqual(0, helper.turn((0, d), (a, 0), corner))
        for corner in third:
            self.assertGreaterEqual(helper.turn((0, d), (a, 0), corner), 0)
        self.assertEqual(c, max(x for x, y in first))
        self.assertEqual(c, min(x for x, y in second))

    def test_small_whole_numbers(self):
        for a in range(2, 12):
            for b in (1, 2, 7):
                for c in range((a + 1) // 2, a):
                    with self.subTest(a=a, b=b, c=c):
                        self.check(a, b, c)

    def test_c_half_of_a(self):
        for a in (2, 7, Fraction(1, 9), Fraction(22, 7)):
            for b in (3, Fraction(5, 8)):
                self.check(a, b, Fraction(a) / 2)

    def test_just_within_the_bounds_of_c(self):
        tiny = Fraction(1, 10 ** 12)
        for a in (1, 5, Fraction(7, 3)):
            self.check(a, 2, a - tiny)
            self.check(a, 2, Fraction(a) / 2 + tiny)

    def test_various_fractions(self):
        numbers = helper.Numbers(31)
        for _ in range(200):
            a = Fraction(numbers.between(1, 60), numbers.between(1, 20))
            b = Fraction(numbers.between(1, 60), numbers.between(1, 20))
            under = numbers.between(1, 30)
            c = a * Fraction(under + numbers.between(0, under - 1), 2 * under)
            with self.subTest(a=a, b=b, c=c):
                self.check(a, b, c)

    def test_numbers_of_the_largest_size(self):
        large = helper.LARGEST
        tiny = Fraction(1, large)
        self.check(large, large, large - 1)
        self.check(large, tiny, large // 2 + 1)
        self.check(large - 1, large, large // 2)
        self.check(Fraction(2, large), large, tiny)
        self.check(Fraction(large, large - 1), Fraction(large - 1, large), 1)
        self.check(Fraction(1, large - 1), Fraction(large, large - 2), tiny)


class Refused(unittest.TestCase):
    GOOD = [4, 1, 2, 1, 3, 1]

    def check(self, q):
        self.assertEqual([-22], stairs(q))

    def check_sizes(self, *sizes):
        self.check(row(*sizes))

    def changed(self, k, *values):
        return self.GOOD[:k] + list(values) + self.GOOD[k + len(values):]

    def test_good_one_is_not_refused(self):
        self.assertEqual(3, stairs(self.GOOD)[0])

    def test_another_count_of_numbers(self):
        for count in range(6):
            self.check(self.GOOD[:count])
            self.check(self.GOOD + self.GOOD[:count + 1])

    def test_long_lists(self):
        self.check([1] * 4000)
        self.check(self.GOOD * 666)
        self.check([helper.LARGEST] * 3999)

    def test_second_number_below_1(self):
        for k in (1, 3, 5):
            for value in (0, -1, -2, -helper.LARGEST):
                self.check(self.changed(k, value))
        for k in (0, 2, 4):
            self.check(self.changed(k, -self.GOOD[k], -1))
            self.check(self.changed(k, 1, 0))
        self.check([-4, -1, -2, -1, -3, -1])

    def test_something_in_common(self):
        for k in (0, 2, 4):
            self.check(self.changed(k, 2 * self.GOOD[k], 2))
            self.check(self.changed(k, 3 * self.GOOD[k], 3))
        # Of the right sizes if they were taken in lowest terms.
        self.check([4, 1, 2, 1, 14, 4])
        self.check([14, 4, 2, 1, 3, 1])

    def test_0_or_below_0(self):
        for k in (0, 2, 4):
            self.check(self.changed(k, 0, 1))
            self.check(self.changed(k, -self.GOOD[k], 1))
            self.check(self.changed(k, -1, helper.LARGEST))
        self.check_sizes(0, 1, 0)
        self.check_sizes(0, 0, 0)
        # c is less than a, or as much as half of it, and all the same no such thing.
        self.check_sizes(-4, 2, -6)
        self.check_sizes(-4, 2, -3)
        self.check_sizes(-4, -2, -3)
        self.check_sizes(-4, 2, -2)
        self.check_sizes(4, -2, 3)

    def test_c_as_much_as_a_or_more(self):
        self.check_sizes(4, 2, 4)
        self.check_sizes(4, 2, 5)
        self.check_sizes(4, 2, 8)
        self.check_sizes(4, 2, helper.LARGEST)
        self.check_sizes(Fraction(7, 3), 2, Fraction(7, 3))
        self.check_sizes(Fraction(7, 3), 2, Fraction(2334, 1000))
        self.check_sizes(1, 1, Fraction(helper.LARGEST, helper.LARGEST - 1))

    def test_c_less_than_half_of_a(self):
        self.check_sizes(4, 2, 1)
        self.check_sizes(5, 2, 2)
        self.check_sizes(Fraction(7, 3), 2, Fraction(7, 6) - Fraction(1, 1000))
        self.check_sizes(1, 1, Fraction(helper.LARGEST // 2, helper.LARGEST))
        self.check_sizes(helper.LARGEST, 1, 1)
        self.assertEqual(3, stairs(row(1, 1, Fraction(helper.LARGEST // 2 + 1, helper.LARGEST)))[0])

    def test_b_does_not_bound_c(self):
        for b in (Fraction(1, 100), 3, 4, 100):
            self.assertEqual(3, stairs(row(4, b, 3))[0])

    def test_numbers_of_the_largest_size(self):
        large = helper.LARGEST
        self.check([large] * 6)
        self.check([-large] * 6)
        self.check([large, 1] * 3)
        self.check([large, large - 1] * 3)
        self.check([1, large] * 3)


class HandedIn(unittest.TestCase):
    def test_list_stays_and_a_second_call_answers_as_the_first(self):
        for q in (list(Refused.GOOD), [4, 1, 3, 1, 2, 1], [5, 2, 1, 3, 3, 2], [2, 4] * 3, [0, 1] * 3, []):
            helper.check_handed_in(self, stairs, q)


if __name__ == "__main__":
    unittest.main()
