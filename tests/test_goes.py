"""goes: points within, on sides and corners, on a cut, in no part; the order of the refusals."""

import unittest
from fractions import Fraction

from stripcut.strips import behind, goes, halved, shear, stairs
from tests import helper
from tests.helper import SQUARE, TRIANGLE

HALF = Fraction(1, 2)
THIRD = Fraction(1, 3)
STAYS = (0, 0)


def call(parts, point):
    return goes(helper.parts_row(parts), helper.flat(point))


class KnownPoints(unittest.TestCase):
    def check(self, parts, point, there):
        self.assertEqual([1] + helper.flat(there), call(parts, point))

    def check_nowhere(self, parts, *points):
        for point in points:
            self.assertEqual([-33], call(parts, point))

    def test_numbers_one_by_one(self):
        row = [3, 0, 1, 0, 1, 4, 1, 0, 1, 1, 1, 3, 1, 1, 1, 2, -1, 3]
        self.assertEqual([1, -1, 2, -5, 6], goes(row, [1, 1, 1, 2]))
        row[13] = 0
        self.assertEqual([1, 3, 2, 1, 6], goes(row, [1, 1, 1, 2]))

    def test_within(self):
        self.check([(SQUARE, 0, (5, 1))], (1, 1), (6, 2))
        self.check([(SQUARE, 1, (5, 1))], (1, 1), (4, 0))
        self.check([(SQUARE, 0, STAYS)], (HALF, THIRD), (HALF, THIRD))
        self.check([(SQUARE, 1, STAYS)], (HALF, THIRD), (-HALF, -THIRD))
        self.check([(SQUARE, 1, (THIRD, HALF))], (HALF, THIRD), (-Fraction(1, 6), Fraction(1, 6)))

    def test_on_each_side(self):
        for point in ((1, 0), (2, HALF), (THIRD, 2), (0, 2 * THIRD)):
            self.check([(SQUARE, 0, (1, 1))], point, (point[0] + 1, point[1] + 1))
            self.check([(SQUARE, 1, (1, 1))], point, (1 - point[0], 1 - point[1]))
        # On the side from 4, 0 to 1, 3.
        self.check([(TRIANGLE, 0, (1, 0))], (Fraction(7, 2), HALF), (Fraction(9, 2), HALF))

    def test_at_each_corner(self):
        for piece in (SQUARE, TRIANGLE, helper.curve(40)):
            for x, y in piece:
                self.check([(piece, 0, (7, HALF))], (x, y), (x + 7, y + HALF))
                self.check([(piece, 1, (7, HALF))], (x, y), (7 - x, HALF - y))

    def test_outside(self):
        self.check_nowhere([(SQUARE, 0, STAYS)], (3, 1), (-1, 1), (1, 3), (1, -1), (3, 3), (-1, -1), (100, 100))
        self.check_nowhere([(SQUARE, 1, STAYS)], (-1, -1), (3, 1))
        # Where it's moved to is not where it is.
        self.check_nowhere([(SQUARE, 0, (5, 5))], (6, 6))

    def test_on_the_line_of_a_side_but_not_on_the_side(self):
        self.check_nowhere([(SQUARE, 0, STAYS)], (3, 0), (-1, 0), (2, 3), (2, -1), (3, 2), (0, -HALF))
        self.check_nowhere([(TRIANGLE, 0, STAYS)], (5, -1), (0, 4), (2, 6), (-1, 0))

    def test_just_outside_and_just_within(self):
        tiny = Fraction(1, 2 ** 250)
        for point, there in (
            ((1, -tiny), (1, tiny)), ((2 + tiny, 1), (2 - tiny, 1)),
            ((1, 2 + tiny), (1, 2 - tiny)), ((-tiny, 1), (tiny, 1)),
        ):
            self.check_nowhere([(SQUARE, 0, STAYS)], point)
            self.check([(SQUARE, 0, STAYS)], there, there)

    def test_on_a_cut_by_the_first_part(self):
        left, right = ([(0, 0), (2, 0), (2, 2), (0, 2)], 0, (10, 0)), ([(2, 0), (4, 0), (4, 2), (2, 2)], 1, (0, 9))
        for point in ((2, 1), (2, 0), (2, 2), (2, THIRD)):
            self.check([left, right], point, (12, point[1]))
            self.check([right, left], point, (-2, 9 - point[1]))
        self.check([left, right], (3, 1), (-3, 8))
        self.check([right, left], (1, 1), (11, 1))

    def test_where_parts_lie_over_each_other_by_the_first(self):
        parts = [(SQUARE, 0, (k, 0)) for k in (5, 3, 4)]
        self.check(parts, (1, 1), (6, 1))
        self.check(parts[1:], (1, 1), (4, 1))
        # In the first only on its border, in the second within.
        self.check([(SQUARE, 0, (5, 0)), ([(0, 0), (9, 0), (9, 9), (0, 9)], 0, STAYS)], (2, 1), (7, 1))

    def test_where_many_parts_meet(self):
        for first in range(4):
            parts = [
                ([(x, y), (x + 1, y), (x + 1, y + 1), (x, y + 1)], 0, (10 * x, 10 * y))
                for x, y in ((0, 0), (1, 0), (1, 1), (0, 1))
            ]
            parts = parts[first:] + parts[:first]
            self.check(parts, (1, 1), helper.by_move(parts[0], (1, 1)))

    def test_in_a_later_part(self):
        parts = [([(3 * k, 0), (3 * k + 2, 0), (3 * k, 2)], k % 2, (0, k)) for k in range(5)]
        for k in range(5):
            self.check(parts, (3 * k + HALF, 1), helper.by_move(parts[k], (3 * k + HALF, 1)))
            self.check_nowhere(parts, (3 * k + 2, 1))

    def test_cutting_of_nothing(self):
        self.assertEqual([-33], goes([], [0, 1, 0, 1]))
        self.assertEqual([-33], goes([], [-7, 3, helper.LARGEST, 2]))

    def test_begun_with_any_corner(self):
        for k in range(3):
            piece = TRIANGLE[k:] + TRIANGLE[:k]
            self.check([(piece, 1, (1, 1))], (1, 2), (0, -1))
            self.check_nowhere([(piece, 1, (1, 1))], (0, 2))


class ByTheWords(unittest.TestCase):
    def check(self, parts, point):
        for part in parts:
            if helper.lies_in(point, part[0]):
                self.assertEqual([1] + helper.flat(helper.by_move(part, point)), call(parts, point))
                return True
        self.assertEqual([-33], call(parts, point))
        return False

    def test_various_points(self):
        numbers = helper.Numbers(71)
        seen = {True: 0, False: 0}
        for _ in range(40):
            for reach, bottom in ((9, 4), (3, 1)):
                parts = helper.various_parts(numbers, numbers.between(1, 5), reach, bottom)
                for _ in range(12):
                    point = tuple(
                        Fraction(numbers.between(-reach, reach), numbers.between(1, bottom)) for _ in range(2))
                    seen[self.check(parts, point)] += 1
                for piece, turned, slid in parts:
                    for a, b in helper.around(piece):
                        seen[self.check(parts, a)] += 1
                        seen[self.check(parts, ((a[0] + b[0]) * HALF, (a[1] + b[1]) * HALF))] += 1
        self.assertGreater(min(seen.values()), 100)

    def test_by_answers_of_other_calls(self):
        for row, wide, high in (
            (halved(helper.flat((0, 0), (3, 0), (5, 2), (1, 2))), 6, 3),
            (shear(helper.flat((0, 0), (7, 0), (HALF, 1)), [-7, 3]), 9, 2),
            (stairs(helper.flat((7, HALF, 5))), 8, 1),
        ):
            parts = helper.read_cutting(self, row)
            for x in range(-1, 2 * wide):
                for y in range(-1, 4 * high):
                    self.check(parts, (x * HALF, Fraction(y, 4)))

    def test_one_cutting_behind_another(self):
        numbers = helper.Numbers(73)
        seen = 0
        for _ in range(25):
            # A part each, so that a point goes one way alone.
            first, second = [helper.parts_row(helper.various_parts(numbers, 1, 5, 2)) for _ in range(2)]
            both = behind(first, second)[1:]
            for piece, turned, slid in helper.read_row(self, both):
                for point in [tuple(sum(p[k] for p in piece) / len(piece) for k in (0, 1))] + piece:
                    there = goes(first, helper.flat(point))
                    self.assertEqual(goes(second, there[1:]), goes(both, helper.flat(point)))
                    seen += 1
        self.assertGreater(seen, 20)

    def test_numbers_of_the_largest_size(self):
        large = helper.LARGEST
        tiny = Fraction(1, large)
        pieces = [
            [(-large, -large), (large, -large), (large, large)],
            [(tiny, Fraction(large - 1, large)), (Fraction(large, large - 2), tiny), (large, large - 1)],
            SQUARE,
        ]
        points = [
            STAYS, (1, 1), (large, large), (-large, -large), (large, -large), (-large, large), (large, large - 1),
            (tiny, tiny), (-tiny, tiny), (tiny, Fraction(large - 1, large)), (Fraction(large, large - 2), tiny),
        ]
        seen = {True: 0, False: 0}
        for piece in pieces:
            for slid in (STAYS, (large, tiny), (Fraction(-large, large - 1), -large)):
                for turned in (0, 1):
                    for point in points:
                        seen[self.check([(piece, turned, slid)], point)] += 1
        self.assertGreater(min(seen.values()), 20)


class ManyParts(unittest.TestCase):
    def test_160_parts(self):
        parts = [(piece, k % 2, (k, 1000)) for k, (piece, _, _) in enumerate(helper.many_parts(160))]
        for k in (0, 1, 79, 158, 159):
            point = (k + THIRD, THIRD)
            self.assertEqual([1] + helper.flat(helper.by_move(parts[k], point)), call(parts, point))
        self.assertEqual([-33], call(parts, (160 + THIRD, THIRD)))

    def test_161_parts(self):
        for count in (161, 162, 222):
            self.assertEqual([-28], call(helper.many_parts(count), (THIRD, THIRD)))
            # In no part, or in the last one alone: all the same too much, told first.
            self.assertEqual([-28], call(helper.many_parts(count), (-THIRD, THIRD)))
            self.assertEqual([-28], call(helper.many_parts(count), (count - 1 + THIRD, THIRD)))

    def test_as_many_corners_as_a_row_holds(self):
        parts = [([(x + 40 * k, y) for x, y in helper.curve(40)], k % 2, (k, HALF)) for k in range(24)]
        for k in range(24):
            point = (40 * k + 20, 500)
            self.assertEqual([1] + helper.flat(helper.by_move(parts[k], point)), call(parts, point))


class Refused(unittest.TestCase):
    GOOD = helper.part_row(TRIANGLE)
    POINT = helper.flat((1, 1))
    FULL = helper.parts_row(helper.many_parts(160))
    OVER = helper.parts_row(helper.many_parts(161))
    WRONG_POINTS = [
        [], [1], [1, 1], [1, 1, 1], [1, 1, 1, 1, 1], [1, 1, 1, 1, 1, 1], [1, 1] * 4, [1] * 4000, [1, 1] * 1999 + [1],
        [1, 0, 1, 1], [1, 1, 1, 0], [1, -1, 1, 1], [1, 1, 1, -1], [-1, -1, 1, 1], [1, 1, -1, -1], [0, 0, 1, 1],
        [1, 1, 0, 0], [0, -1, 1, 1], [1, -helper.LARGEST, 1, 1], [2, 2, 1, 1], [1, 1, 2, 2], [6, 4, 1, 1],
        [1, 1, -6, 9], [0, 2, 1, 1], [1, 1, 0, 3], [0, helper.LARGEST, 1, 1], [helper.LARGEST, helper.LARGEST, 1, 1],
        [helper.LARGEST] * 4, [-helper.LARGEST] * 4, [1, 1, helper.LARGEST - 1, 2],
    ]

    def test_good_one_is_not_refused(self):
        self.assertEqual([1, 1, 1, 1, 1], goes(self.GOOD, self.POINT))

    def test_c_wrong(self):
        for what, row in helper.wrong_cuttings():
            with self.subTest(what=what, row=row):
                self.assertEqual([-22], goes(row, self.POINT))
                # Wrong behind the part that the point lies in.
                self.assertEqual([-22], goes(self.GOOD + row, self.POINT))

    def test_c_wrong_and_z_in_no_part(self):
        for what, row in helper.wrong_cuttings()[::9]:
            self.assertEqual([-22], goes(row, helper.flat((-99, 99))))

    def test_long_rows(self):
        for row in helper.long_wrong_rows():
            self.assertEqual([-22], goes(row, self.POINT))

    def test_z_wrong(self):
        for z in self.WRONG_POINTS:
            self.assertEqual([-22], goes(self.GOOD, z))
            self.assertEqual([-22], goes(self.FULL, z))

    def test_z_wrong_and_c_of_nothing(self):
        for z in self.WRONG_POINTS:
            self.assertEqual([-22], goes([], z))

    def test_c_and_z_wrong(self):
        for what, row in helper.wrong_cuttings()[::9]:
            for z in self.WRONG_POINTS[::4]:
                self.assertEqual([-22], goes(row, z))

    def test_c_too_much_and_z_wrong(self):
        for z in self.WRONG_POINTS:
            self.assertEqual([-28], goes(self.OVER, z))

    def test_c_wrong_behind_the_160th_part(self):
        for what, row in helper.wrong_cuttings()[::9]:
            for c in (self.FULL, self.OVER):
                self.assertEqual([-22], goes(c + row, self.POINT))
                self.assertEqual([-22], goes(c + row, []))


class HandedIn(unittest.TestCase):
    def test_lists_stay_and_a_second_call_answers_as_the_first(self):
        good = helper.part_row(TRIANGLE[1:] + TRIANGLE[:1], 1, (1, HALF))
        over = helper.parts_row(helper.many_parts(161))
        for c, z in (
            (list(good), [1, 1, 1, 2]), (good + good, [0, 1, 0, 1]), (list(good), [-1, 1, 0, 1]), ([], [0, 1, 0, 1]),
            (good[:7], [1, 1, 1, 2]), (list(good), [2, 4, 1, 1]), (over, [1, 1, 1, 2]), (over, []), ([], []),
        ):
            helper.check_handed_in(self, goes, c, z)

    def test_one_list_handed_in_as_both(self):
        row = [0, 1, 0, 1]
        self.assertEqual([-22], goes(row, row))
        self.assertEqual([0, 1, 0, 1], row)


if __name__ == "__main__":
    unittest.main()
