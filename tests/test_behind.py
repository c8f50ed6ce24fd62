"""behind: slides and half turns, what two parts have in common, the order of the parts, and 160 of them."""

import unittest
from fractions import Fraction

from stripcut.strips import behind, halved, shear, stairs
from tests import helper
from tests.helper import SQUARE, TRIANGLE

HALF = Fraction(1, 2)
THIRD = Fraction(1, 3)
STAYS = (0, 0)


def call(first, second):
    return behind(helper.parts_row(first), helper.parts_row(second))


def at(corners, right, up):
    return [(x + right, y + up) for x, y in corners]


class KnownCuttings(unittest.TestCase):
    def check(self, first, second, *parts):
        self.assertEqual(helper.cutting_row(*parts), call(first, second))

    def test_numbers_one_by_one(self):
        self.assertEqual(
            [1, 4, -1, 1, -1, 1, -1, 2, -1, 1, -1, 2, 0, 1, -1, 1, 0, 1, 1, 3, 1, -7, 2],
            behind(
                [4, -1, 1, -1, 1, 1, 1, -1, 1, 1, 1, 1, 1, -1, 1, 1, 1, 0, 3, 2, 0, 1],
                [4, 0, 1, -1, 1, 1, 1, -1, 1, 1, 1, 0, 1, 0, 1, 0, 1, 1, 9, 2, -7, 2],
            ),
        )

    def test_slide_behind_slide(self):
        self.check(
            [(SQUARE, 0, (5, 1))], [(at(SQUARE, 6, 2), 0, (-1, THIRD))],
            ([(1, 1), (2, 1), (2, 2), (1, 2)], 0, (4, Fraction(4, 3))),
        )

    def test_turn_behind_slide(self):
        self.check(
            [(SQUARE, 0, (5, 1))], [(at(SQUARE, 6, 2), 1, (-1, THIRD))],
            ([(1, 1), (2, 1), (2, 2), (1, 2)], 1, (-6, -2 * THIRD)),
        )

    def test_slide_behind_turn(self):
        # Turned and slid the square lies from 3, 4 to 5, 6.
        self.check(
            [(SQUARE, 1, (5, 6))], [(at(SQUARE, 4, 5), 0, (10, 20))],
            ([(0, 0), (1, 0), (1, 1), (0, 1)], 1, (15, 26)),
        )

    def test_turn_behind_turn(self):
        self.check(
            [(SQUARE, 1, (5, 6))], [(at(SQUARE, 4, 5), 1, (10, 20))],
            ([(0, 0), (1, 0), (1, 1), (0, 1)], 0, (5, 14)),
        )

    def test_turned_about_0_0_alone(self):
        self.check(
            [(TRIANGLE, 1, STAYS)], [([(-2, -9), (9, -9), (9, 9), (-2, 9)], 1, STAYS)],
            ([(0, 0), (2, 0), (2, 2), (1, 3)], 0, STAYS),
        )

    def test_all_in_common(self):
        self.check([(SQUARE, 0, STAYS)], [(SQUARE, 0, STAYS)], (SQUARE, 0, STAYS))
        self.check([(SQUARE, 1, (2, 2))], [(SQUARE, 1, (2, 2))], (SQUARE, 0, STAYS))

    def test_the_one_within_the_other(self):
        large = [(-9, -9), (9, -9), (9, 9), (-9, 9)]
        self.check([(TRIANGLE, 0, (1, 1))], [(large, 0, (0, 5))], (TRIANGLE, 0, (1, 6)))
        self.check([(large, 0, (1, 1))], [(TRIANGLE, 0, (0, 5))], (at(TRIANGLE, -1, -1), 0, (1, 6)))

    def test_nothing_in_common(self):
        self.check([(SQUARE, 0, STAYS)], [(at(SQUARE, 3, 0), 0, STAYS)])
        self.check([(SQUARE, 0, (3, 0))], [(SQUARE, 0, STAYS)])
        self.check([(SQUARE, 1, STAYS)], [(at(SQUARE, 1, 1), 0, STAYS)])
        # The boxes have much in common, the pieces nothing.
        self.check([([(0, 0), (9, 0), (0, 9)], 0, STAYS)], [([(9, 1), (9, 9), (1, 9)], 0, STAYS)])

    def test_only_a_point_in_common(self):
        self.check([(SQUARE, 0, STAYS)], [(at(SQUARE, 2, 2), 0, STAYS)])
        self.check([(SQUARE, 0, STAYS)], [([(2, 1), (4, 0), (4, 2)], 0, STAYS)])
        self.check([(SQUARE, 1, STAYS)], [(SQUARE, 0, STAYS)])
        self.check([([(2, 1), (4, 0), (4, 2)], 0, STAYS)], [(SQUARE, 0, STAYS)])

    def test_only_a_part_of_a_side_in_common(self):
        self.check([(SQUARE, 0, STAYS)], [(at(SQUARE, 2, 1), 0, STAYS)])
        self.check([(SQUARE, 0, STAYS)], [(at(SQUARE, 2, 0), 0, STAYS)])
        self.check([(SQUARE, 0, STAYS)], [(at(SQUARE, 1, -2), 0, STAYS)])
        self.check([([(0, 0), (4, 0), (0, 4)], 0, STAYS)], [([(1, 3), (3, 1), (4, 4)], 0, STAYS)])

    def test_a_part_of_a_side_and_a_piece_in_common(self):
        self.check(
            [(SQUARE, 0, STAYS)], [([(0, 0), (1, 0), (0, 5)], 0, STAYS)],
            ([(0, 0), (1, 0), (Fraction(3, 5), 2), (0, 2)], 0, STAYS),
        )

    def test_hardly_anything_in_common(self):
        tiny = Fraction(1, 2 ** 200)
        self.check([(SQUARE, 0, STAYS)], [(at(SQUARE, 2 + tiny, 0), 0, STAYS)])
        self.check(
            [(SQUARE, 0, STAYS)], [(at(SQUARE, 2 - tiny, 0), 0, STAYS)],
            ([(2 - tiny, 0), (2, 0), (2, 2), (2 - tiny, 2)], 0, STAYS),
        )

    def test_six_corners_of_two_triangles(self):
        self.check(
            [([(0, 0), (6, 0), (3, 6)], 0, STAYS)], [([(3, -2), (6, 4), (0, 4)], 0, STAYS)],
            ([(1, 2), (2, 0), (4, 0), (5, 2), (4, 4), (2, 4)], 0, STAYS),
        )

    def test_first_corner_is_the_leftmost_of_where_it_was(self):
        # In common there, moved, it's leftmost at 3, 5; turned back that's the rightmost.
        self.check(
            [(TRIANGLE, 1, (4, 5))], [([(-9, -9), (9, -9), (9, 9), (-9, 9)], 0, STAYS)],
            (TRIANGLE, 1, (4, 5)),
        )

    def test_order_of_the_parts(self):
        first = [(at(SQUARE, 0, 2), 0, STAYS), (SQUARE, 0, STAYS)]
        second = [
            ([(1, -9), (9, -9), (9, 9), (1, 9)], 0, (7, 0)),
            ([(20, 0), (21, 0), (20, 1)], 0, (8, 0)),
            ([(-9, -9), (1, -9), (1, 9), (-9, 9)], 0, (9, 0)),
        ]
        self.check(
            first, second,
            ([(1, 2), (2, 2), (2, 4), (1, 4)], 0, (7, 0)),
            ([(0, 2), (1, 2), (1, 4), (0, 4)], 0, (9, 0)),
            ([(1, 0), (2, 0), (2, 2), (1, 2)], 0, (7, 0)),
            ([(0, 0), (1, 0), (1, 2), (0, 2)], 0, (9, 0)),
        )

    def test_parts_that_lie_over_each_other_count_each(self):
        self.check(
            [(SQUARE, 0, STAYS)] * 2, [(SQUARE, 0, (1, 0)), (SQUARE, 1, STAYS)],
            (SQUARE, 0, (1, 0)), (SQUARE, 1, STAYS), (SQUARE, 0, (1, 0)), (SQUARE, 1, STAYS),
        )

    def test_cutting_of_nothing(self):
        for turned in (0, 1):
            self.assertEqual([0], call([], [(SQUARE, turned, STAYS)]))
            self.assertEqual([0], call([(SQUARE, turned, STAYS)], []))
        self.assertEqual([0], behind([], []))

    def test_forty_corners(self):
        piece = helper.curve(40)
        self.check([(piece, 1, (7, 1))], [([(7 - x, 1 - y) for x, y in piece], 1, STAYS)], (piece, 0, (-7, -1)))
        # Two curves that bend opposite ways have a piece in common with more corners than
        # one that's handed in may have.
        down = at([(39 - x, 39 * 39 - y) for x, y in piece], 0, -Fraction(761, 2))
        answer = call([(piece, 0, STAYS)], [(down, 0, STAYS)])
        self.assertGreater(answer[1], 40)
        self.assertEqual(helper.cutting_row((helper.common_piece(piece, down), 0, STAYS)), answer)


class ByTheWords(unittest.TestCase):
    def check(self, first, second):
        answer = call(first, second)
        parts = helper.read_cutting(self, answer)
        for piece, turned, slid in parts:
            helper.check_piece(self, piece)
        self.assertEqual(helper.parts_behind(first, second), parts)
        return parts

    def test_one_part_each_begun_with_any_corner(self):
        known = call([(SQUARE, 1, (3, 3))], [(TRIANGLE, 1, (HALF, 1))])
        for j in range(4):
            for k in range(3):
                one, other = SQUARE[j:] + SQUARE[:j], TRIANGLE[k:] + TRIANGLE[:k]
                self.assertEqual(known, call([(one, 1, (3, 3))], [(other, 1, (HALF, 1))]))
                self.check([(one, 1, (3, 3))], [(other, 1, (HALF, 1))])

    def test_each_kind_of_move_behind_each(self):
        numbers = helper.Numbers(41)
        for one in (0, 1):
            for other in (0, 1):
                found = 0
                for _ in range(60):
                    (piece, _, slid), (there, _, onward) = helper.various_parts(numbers, 2, 8, 3)
                    found += len(self.check([(piece, one, slid)], [(there, other, onward)]))
                self.assertGreater(found, 10)

    def test_whole_numbers_close_by(self):
        # On a small grid corners and sides fall together often.
        numbers = helper.Numbers(43)
        for _ in range(150):
            first, second = [helper.various_parts(numbers, numbers.between(1, 3), 2, 1) for _ in range(2)]
            self.check(first, second)

    def test_several_parts_with_fractions(self):
        numbers = helper.Numbers(47)
        for _ in range(25):
            first, second = [helper.various_parts(numbers, numbers.between(2, 6), 12, 7) for _ in range(2)]
            self.check(first, second)

    def test_points_go_as_by_the_one_and_then_by_the_other(self):
        numbers = helper.Numbers(53)
        for _ in range(20):
            first, second = [helper.various_parts(numbers, 2, 6, 2) for _ in range(2)]
            parts = self.check(first, second)
            for part in parts:
                middle = tuple(sum(corner[k] for corner in part[0]) / len(part[0]) for k in (0, 1))
                ends = [
                    helper.by_move(other, helper.by_move(one, middle))
                    for one in first for other in second
                    if helper.lies_in(middle, one[0]) and helper.lies_in(helper.by_move(one, middle), other[0])
                ]
                self.assertIn(helper.by_move(part, middle), ends)

    def test_answers_of_other_calls(self):
        slice_row = helper.flat((0, 0), (3, 0), (5, 2), (1, 2))
        made = halved(slice_row)[1:]
        onward = shear(helper.flat((0, 0), (7, 0), (HALF, 1)), [-1, 14])[1:]
        upright = helper.read_cutting(self, behind(made, onward))
        self.assertEqual(
            helper.parts_behind(helper.read_row(self, made), helper.read_row(self, onward)), upright)
        helper.check_fills(self, [helper.moved(part) for part in upright], [(0, 0), (7, 0), (7, 1), (0, 1)])
        steps = stairs(helper.flat((7, 1, 5)))[1:]
        narrow = helper.read_cutting(self, behind(helper.parts_row(upright), steps))
        high = Fraction(7, 5)
        helper.check_fills(self, [part[0] for part in narrow], [(0, 0), (3, 0), (5, 2), (1, 2)])
        helper.check_fills(self, [helper.moved(part) for part in narrow], [(0, 0), (5, 0), (5, high), (0, high)])

    def test_which_two_stand_together_first_makes_no_difference(self):
        numbers = helper.Numbers(59)
        for _ in range(10):
            rows = [helper.parts_row(helper.various_parts(numbers, 2, 5, 2)) for _ in range(3)]
            ahead = behind(behind(rows[0], rows[1])[1:], rows[2])
            self.assertEqual(ahead, behind(rows[0], behind(rows[1], rows[2])[1:]))

    def test_numbers_of_the_largest_size(self):
        large = helper.LARGEST
        tiny = Fraction(1, large)
        wide = [(-large, -large), (large, -large), (large, large), (-large, large)]
        odd = [(tiny, Fraction(large - 1, large)), (Fraction(large, large - 2), tiny), (large, large - 1)]
        thin = [(0, 0), (large, 1), (large - 1, 1)]
        pieces = [wide, odd, thin, SQUARE]
        slides = [STAYS, (-large, Fraction(-large, large - 1)), (tiny, -tiny)]
        found = 0
        for one in pieces:
            for other in pieces:
                for slid in slides:
                    for turned in (0, 1):
                        found += len(self.check([(one, turned, slid)], [(other, 1, slid)]))
        self.assertGreater(found, 20)


class ManyParts(unittest.TestCase):
    LARGE = [(-500, -500), (500, -500), (500, 500), (-500, 500)]

    def test_160_parts_of_c(self):
        parts = helper.many_parts(160)
        self.assertEqual(helper.cutting_row(*parts), call(parts, [(self.LARGE, 0, STAYS)]))
        self.assertEqual([0], call(parts, []))

    def test_160_parts_of_d(self):
        parts = helper.many_parts(160)
        self.assertEqual(helper.cutting_row(*parts), call([(self.LARGE, 0, STAYS)], parts))
        self.assertEqual([0], call([], parts))

    def test_160_parts_of_both(self):
        parts = helper.many_parts(160)
        self.assertEqual(helper.cutting_row(*parts), call(parts, parts))
        self.assertEqual(helper.cutting_row(*parts[:159]), call(parts[:159], parts))

    def test_161_parts_of_c(self):
        for count in (161, 162, 222):
            parts = helper.many_parts(count)
            self.assertEqual([-28], call(parts, [(self.LARGE, 0, STAYS)]))
            self.assertEqual([-28], call(parts, []))
            self.assertEqual([-28], call(parts, [([(0, 9), (1, 9), (0, 10)], 0, STAYS)]))

    def test_161_parts_of_d(self):
        for count in (161, 162, 222):
            parts = helper.many_parts(count)
            self.assertEqual([-28], call([(self.LARGE, 0, STAYS)], parts))
            self.assertEqual([-28], call([], parts))
            self.assertEqual([-28], call(parts, parts))

    def test_160_and_161_parts_made(self):
        small = helper.many_parts(16)
        large = [(self.LARGE, 0, (k, 0)) for k in range(10)]
        self.assertEqual(160, call(small, large)[0])
        self.assertEqual(160, call(large, small)[0])
        far = [([(900, 0), (901, 0), (900, 1)], 0, STAYS)]
        self.assertEqual(160, call(small + far, large)[0])
        self.assertEqual(160, call(small, large + far)[0])
        self.assertEqual([-28], call(small + far, large + far))
        self.assertEqual([-28], call(large + far, small + far))
        self.assertEqual([-28], call(small, large + large[:1]))
        self.assertEqual([-28], call(small + small[:1], large))

    def test_far_more_than_160_parts_made(self):
        parts = [(SQUARE, 0, STAYS)] * 160
        self.assertEqual([-28], call(parts, parts))
        self.assertEqual(160, call(parts, parts[:1])[0])
        self.assertEqual([-28], call(parts, parts[:2]))

    def test_as_many_corners_as_a_row_holds(self):
        # 24 pieces of 40 corners; each has all in common with the one piece, or with itself alone.
        curves = [(at(helper.curve(40), 50 * k, 0), k % 2, (k, -k)) for k in range(24)]
        self.assertEqual(3984, len(helper.parts_row(curves)))
        whole = [([(-9999, -9999), (9999, -9999), (9999, 9999), (-9999, 9999)], 0, STAYS)]
        self.assertEqual(24, call(curves, whole)[0])
        self.assertEqual(24, call(whole, curves)[0])


class Refused(unittest.TestCase):
    GOOD = helper.part_row(TRIANGLE)
    FULL = helper.parts_row(helper.many_parts(160))
    OVER = helper.parts_row(helper.many_parts(161))

    def test_c_wrong(self):
        for what, row in helper.wrong_cuttings():
            with self.subTest(what=what, row=row):
                self.assertEqual([-22], behind(row, self.GOOD))
                self.assertEqual([-22], behind(self.GOOD + row, self.GOOD))
        for what, row in helper.wrong_cuttings()[::7]:
            self.assertEqual([-22], behind(row, []))

    def test_d_wrong(self):
        for what, row in helper.wrong_cuttings():
            with self.subTest(what=what, row=row):
                self.assertEqual([-22], behind(self.GOOD, row))
                self.assertEqual([-22], behind(self.GOOD, self.GOOD + row))
        for what, row in helper.wrong_cuttings()[::7]:
            self.assertEqual([-22], behind([], row))

    def test_long_rows(self):
        for row in helper.long_wrong_rows():
            self.assertEqual([-22], behind(row, self.GOOD))
            self.assertEqual([-22], behind(self.GOOD, row))
            self.assertEqual([-22], behind(row, row))

    def test_c_and_d_wrong(self):
        rows = [row for what, row in helper.wrong_cuttings()]
        for one, other in zip(rows[::5], rows[::-5]):
            self.assertEqual([-22], behind(one, other))

    def test_c_wrong_and_d_too_much(self):
        for what, row in helper.wrong_cuttings()[::9]:
            self.assertEqual([-22], behind(row, self.OVER))

    def test_c_too_much_and_d_wrong(self):
        for what, row in helper.wrong_cuttings()[::9]:
            self.assertEqual([-28], behind(self.OVER, row))

    def test_c_as_told_and_d_wrong(self):
        for what, row in helper.wrong_cuttings()[::9]:
            self.assertEqual([-22], behind(self.FULL, row))

    def test_wrong_behind_the_160th_part(self):
        for what, row in helper.wrong_cuttings()[::9]:
            with self.subTest(what=what, row=row):
                self.assertEqual([-22], behind(self.FULL + row, self.GOOD))
                self.assertEqual([-22], behind(self.OVER + row, self.GOOD))
                self.assertEqual([-22], behind(self.GOOD, self.OVER + row))
                self.assertEqual([-22], behind(self.OVER + row, self.OVER))
                self.assertEqual([-28], behind(self.OVER, self.OVER + row))

    def test_40_and_41_corners(self):
        self.assertEqual(1, behind(helper.part_row(helper.curve(40)), helper.part_row(helper.curve(40)))[0])
        self.assertEqual([-22], behind(helper.part_row(helper.curve(41)), self.GOOD))
        self.assertEqual([-22], behind(self.GOOD, helper.part_row(helper.curve(41))))

    def test_pieces_on_a_small_grid_by_the_words(self):
        numbers = helper.Numbers(61)
        seen = {True: 0, False: 0}
        for _ in range(3000):
            corners = [(numbers.below(4), numbers.below(4)) for _ in range(numbers.between(3, 5))]
            good = all(
                helper.turn(a, b, corners[j]) > 0
                for k, (a, b) in enumerate(helper.around(corners))
                for j in range(len(corners)) if j not in (k, (k + 1) % len(corners))
            )
            seen[good] += 1
            answer = behind(helper.part_row(corners), helper.part_row([(-9, -9), (9, -9), (9, 9), (-9, 9)]))
            self.assertEqual(good, answer != [-22], corners)
        self.assertGreater(seen[True], 100)


class HandedIn(unittest.TestCase):
    def test_lists_stay_and_a_second_call_answers_as_the_first(self):
        good = helper.part_row(TRIANGLE[1:] + TRIANGLE[:1], 1, (1, HALF))
        over = helper.parts_row(helper.many_parts(161))
        for c, d in (
            (list(good), helper.part_row(SQUARE, 0, (-1, -1))), (good + good, good + good), ([], list(good)),
            (list(good), []), ([], []), (good[:5], list(good)), (list(good), good[:-1]), (over, list(good)),
            (list(good), over), (over, [1, 2]),
        ):
            helper.check_handed_in(self, behind, c, d)

    def test_one_list_handed_in_as_both(self):
        row = helper.part_row(SQUARE, 1, (2, 2))
        before = list(row)
        self.assertEqual(helper.cutting_row((SQUARE, 0, STAYS)), behind(row, row))
        self.assertEqual(before, row)


if __name__ == "__main__":
    unittest.main()
