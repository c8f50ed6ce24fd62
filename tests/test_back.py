"""back: slides and half turns taken back, the order of the parts, 160 of them, and wrong inputs."""

import unittest
from fractions import Fraction

from stripcut.strips import back, behind, goes, halved, shear, stairs
from tests import helper
from tests.helper import SQUARE, TRIANGLE

HALF = Fraction(1, 2)
THIRD = Fraction(1, 3)
STAYS = (0, 0)


def call(parts):
    return back(helper.parts_row(parts))


class KnownCuttings(unittest.TestCase):
    def check(self, parts, *made):
        self.assertEqual(helper.cutting_row(*made), call(parts))

    def test_numbers_one_by_one(self):
        self.assertEqual(
            [2,
             3, 1, 2, -3, 1, 9, 2, -3, 1, 3, 2, 0, 1, 0, -1, 2, 3, 1,
             3, -3, 1, 1, 3, 0, 1, -8, 3, 1, 1, 1, 3, 1, 1, 1, 1, 3],
            back([
                3, 0, 1, 0, 1, 4, 1, 0, 1, 1, 1, 3, 1, 0, 1, 2, -3, 1,
                3, 0, 1, 0, 1, 4, 1, 0, 1, 1, 1, 3, 1, 1, 1, 1, 1, 3,
            ]),
        )

    def test_slide(self):
        self.check([(SQUARE, 0, (5, -1))], ([(5, -1), (7, -1), (7, 1), (5, 1)], 0, (-5, 1)))

    def test_slide_by_nothing(self):
        self.check([(SQUARE, 0, STAYS)], (SQUARE, 0, STAYS))

    def test_half_turn(self):
        self.check([(SQUARE, 1, STAYS)], ([(-2, -2), (0, -2), (0, 0), (-2, 0)], 1, STAYS))

    def test_half_turn_and_slide(self):
        self.check([(SQUARE, 1, (5, -1))], ([(3, -3), (5, -3), (5, -1), (3, -1)], 1, (5, -1)))

    def test_fractions(self):
        self.check(
            [([(HALF, THIRD), (1, THIRD), (HALF, 1)], 0, (HALF, THIRD))],
            ([(1, 2 * THIRD), (3 * HALF, 2 * THIRD), (1, 4 * THIRD)], 0, (-HALF, -THIRD)),
        )
        self.check(
            [([(HALF, THIRD), (1, THIRD), (HALF, 1)], 1, (HALF, THIRD))],
            ([(-HALF, 0), (0, -2 * THIRD), (0, 0)], 1, (HALF, THIRD)),
        )

    def test_leftmost_corner_first_where_it_is_moved_to(self):
        # Of the square's right corners, turned the left ones, the upper one becomes the lowest.
        for k in range(4):
            self.check(
                [(SQUARE[k:] + SQUARE[:k], 1, (2, 2)), (SQUARE[k:] + SQUARE[:k], 0, (1, 1))],
                (SQUARE, 1, (2, 2)), ([(1, 1), (3, 1), (3, 3), (1, 3)], 0, (-1, -1)),
            )

    def test_order_of_the_parts(self):
        slides = [(3, 0), (1, 0), (2, 5), (1, 0), (-7, HALF)]
        answer = call([(SQUARE, 0, slid) for slid in slides])
        self.assertEqual(
            [(-x, -y) for x, y in slides],
            [slid for piece, turned, slid in helper.read_cutting(self, answer)],
        )

    def test_cutting_of_nothing(self):
        self.assertEqual([0], back([]))

    def test_forty_corners(self):
        piece = helper.curve(40)
        self.check([(piece[17:] + piece[:17], 0, (1, 2))], ([(x + 1, y + 2) for x, y in piece], 0, (-1, -2)))

    def test_stairs_taken_back(self):
        self.assertEqual(
            helper.cutting_row(
                ([(0, 0), (2, 0), (2, 3), (0, 3)], 0, STAYS),
                ([(0, 3), (2, 3), (0, 6)], 0, (2, -3)),
                ([(0, 6), (2, 3), (2, 6)], 0, (2, -3)),
            ),
            back(stairs([4, 1, 3, 1, 2, 1])[1:]),
        )


class WhatHolds(unittest.TestCase):
    def check(self, parts):
        answer = call(parts)
        made = helper.read_cutting(self, answer)
        self.assertEqual(helper.parts_back(parts), made)
        for piece, turned, slid in made:
            helper.check_piece(self, piece)
        for part, other in zip(parts, made):
            self.assertEqual(sorted(part[0]), sorted(helper.moved(other)))
        # Taken back twice it's as it was, begun with the leftmost corner.
        again = back(answer[1:])
        self.assertEqual(helper.cutting_row(*[(helper.spanned(part[0]), part[1], part[2]) for part in parts]), again)

    def test_each_kind_of_move_begun_with_any_corner(self):
        for turned in (0, 1):
            for slid in (STAYS, (3, -2), (HALF, 5), (-THIRD, 4 * THIRD)):
                for piece in (SQUARE, TRIANGLE, helper.curve(7)):
                    for k in range(len(piece)):
                        self.check([(piece[k:] + piece[:k], turned, slid)])

    def test_various_cuttings(self):
        numbers = helper.Numbers(67)
        for _ in range(60):
            self.check(helper.various_parts(numbers, numbers.between(1, 12), 20, 9))
            self.check(helper.various_parts(numbers, numbers.between(1, 12), 2, 1))

    def test_numbers_of_the_largest_size(self):
        large = helper.LARGEST
        tiny = Fraction(1, large)
        for piece in (
            [(-large, -large), (large, -large), (large, large)],
            [(tiny, Fraction(large - 1, large)), (Fraction(large, large - 2), tiny), (large, large - 1)],
        ):
            for slid in ((large, -large), (tiny, Fraction(1 - large, large))):
                for turned in (0, 1):
                    parts = [(piece, turned, slid)]
                    self.assertEqual(helper.cutting_row(*helper.parts_back(parts)), call(parts))

    def test_answers_of_other_calls(self):
        for row in (
            halved(helper.flat((0, 0), (3, 0), (5, 2), (1, 2))),
            shear(helper.flat((0, 0), (7, 0), (HALF, 1)), [-7, 3]),
            stairs(helper.flat((7, HALF, 5))),
        ):
            self.check(helper.read_cutting(self, row))

    def test_behind_a_cutting_taken_back_each_point_is_where_it_was(self):
        # The parts have nothing in common, neither here nor moved.
        for row in (
            halved(helper.flat((0, 0), (3, 0), (5, 2), (1, 2)))[1:],
            shear(helper.flat((0, 0), (7, 0), (HALF, 1)), [-7, 3])[1:],
            stairs(helper.flat((7, HALF, 5)))[1:],
        ):
            for there in (behind(row, back(row)[1:]), behind(back(row)[1:], row)):
                parts = helper.read_cutting(self, there)
                self.assertEqual(len(helper.read_row(self, row)), len(parts))
                self.assertEqual([(0, STAYS)] * len(parts), [part[1:] for part in parts])
            for piece, turned, slid in helper.read_row(self, row):
                middle = tuple(sum(corner[k] for corner in piece) / len(piece) for k in (0, 1))
                moved = goes(row, helper.flat(middle))
                self.assertEqual([1] + helper.flat(middle), goes(back(row)[1:], moved[1:]))

    def test_behind_itself_taken_back_its_pieces_stay(self):
        row = helper.parts_row([(SQUARE, 1, (9, 9)), (TRIANGLE, 0, (-9, HALF))])
        self.assertEqual(
            helper.cutting_row((SQUARE, 0, STAYS), (TRIANGLE, 0, STAYS)), behind(row, back(row)[1:]))


class ManyParts(unittest.TestCase):
    def test_160_parts(self):
        parts = [(piece, k % 2, (k, -k)) for k, (piece, _, _) in enumerate(helper.many_parts(160))]
        self.assertEqual(helper.cutting_row(*helper.parts_back(parts)), call(parts))

    def test_161_parts(self):
        for count in (161, 162, 222):
            self.assertEqual([-28], call(helper.many_parts(count)))

    def test_as_many_corners_as_a_row_holds(self):
        parts = [(helper.curve(40), k % 2, (k, HALF)) for k in range(24)]
        self.assertEqual(helper.cutting_row(*helper.parts_back(parts)), call(parts))


class Refused(unittest.TestCase):
    GOOD = helper.part_row(TRIANGLE)

    def test_no_cutting(self):
        for what, row in helper.wrong_cuttings():
            with self.subTest(what=what, row=row):
                self.assertEqual([-22], back(row))
                self.assertEqual([-22], back(self.GOOD + row))

    def test_long_rows(self):
        for row in helper.long_wrong_rows():
            self.assertEqual([-22], back(row))

    def test_wrong_behind_the_160th_part(self):
        for what, row in helper.wrong_cuttings()[::9]:
            for count in (160, 161):
                self.assertEqual([-22], back(helper.parts_row(helper.many_parts(count)) + row))

    def test_an_answer_with_its_count(self):
        self.assertEqual([-22], back(stairs([4, 1, 3, 1, 2, 1])))
        self.assertEqual([-22], back([0]))


class HandedIn(unittest.TestCase):
    def test_list_stays_and_a_second_call_answers_as_the_first(self):
        good = helper.part_row(TRIANGLE[1:] + TRIANGLE[:1], 1, (1, HALF))
        over = helper.parts_row(helper.many_parts(161))
        for c in (list(good), good + helper.part_row(SQUARE, 0, (3, 3)), [], good[:9], good + [3], over):
            helper.check_handed_in(self, back, c)


if __name__ == "__main__":
    unittest.main()
