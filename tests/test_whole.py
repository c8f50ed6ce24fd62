"""Over the whole program: a figure led to its strip and back, one figure cut into another, nothing kept or changed."""

import unittest
from fractions import Fraction

from stripcut.strips import back, behind, goes, halved, shear, slices, stairs, strip
from tests import helper

STAYS = (0, 0)
# A width at which each is cut, and the figure.
SOME = [
    (1, [(0, 0), (2, 0), (2, 2), (0, 2)]),
    (3, [(0, 0), (5, 1), (1, 3)]),
    (4, [(0, 0), (6, 0), (6, 4), (4, 4), (4, 2), (2, 2), (2, 4), (0, 4)]),
    (5, [(0, 0), (4, 4), (0, 1), (-4, 4)]),
    (7, [(-3, -5), (4, -2), (1, 0), (6, 5), (-2, 3)]),
    (20, [(-9, 0), (-1, -4), (8, 2), (3, 6), (-5, 4), (-2, 1)]),
]


def middle_of(piece):
    return tuple(sum(corner[k] for corner in piece) / len(piece) for k in (0, 1))


def cut_to_strip(w, corners):
    return strip(w, helper.row_of(corners))[1:]


def inner_points(piece):
    """Some points within a piece: its middle, and between that and each corner."""
    middle = middle_of(piece)
    return [middle] + [middle_of([middle, corner]) for corner in piece]


class ThereAndBack(unittest.TestCase):
    def check_goes(self, row, point, there):
        self.assertEqual([1] + helper.flat(there), goes(row, helper.flat(point)))

    def test_from_the_strip_to_the_figure_and_back_again(self):
        for w, corners in SOME:
            row = cut_to_strip(w, corners)
            taken = back(row)[1:]
            for part in helper.read_row(self, taken)[::3]:
                for point in inner_points(part[0]):
                    here = helper.by_move(part, point)
                    self.check_goes(taken, point, here)
                    self.check_goes(row, here, point)

    def test_any_point_of_the_strip_has_one_in_the_figure(self):
        for w, corners in SOME[:4]:
            row = cut_to_strip(w, corners)
            taken = back(row)[1:]
            high = helper.size(corners) / w
            # Odd shares, so that few of the points lie on a cut.
            for x in range(1, 11):
                for y in range(1, 13):
                    point = (Fraction(x * w, 11), Fraction(y, 13) * high)
                    answer = goes(taken, helper.flat(point))
                    self.assertEqual(1, answer[0])
                    here = helper.read_point(self, answer[1:])
                    self.assertTrue(any(
                        helper.lies_in(here, told)
                        for told in helper.read_slices(self, slices(helper.row_of(corners)))
                    ))
                    if sum(helper.lies_in(point, part[0]) for part in helper.read_row(self, taken)) == 1:
                        self.check_goes(row, here, point)

    def test_outside_of_the_strip_and_of_the_figure(self):
        for w, corners in SOME:
            row = cut_to_strip(w, corners)
            high = helper.size(corners) / w
            tiny = Fraction(1, 10 ** 6)
            half = Fraction(w, 2)
            for point in ((-tiny, high / 2), (w + tiny, high / 2), (half, -tiny), (half, high + tiny)):
                self.assertEqual([-33], goes(back(row)[1:], helper.flat(point)))
            for point in ((50, 50), (-50, -50), (min(x for x, y in corners) - tiny, 2)):
                self.assertEqual([-33], goes(row, helper.flat(point)))

    def test_behind_and_back_leave_all_as_it_was(self):
        for w, corners in SOME:
            row = cut_to_strip(w, corners)
            parts = helper.read_row(self, row)
            stayed = [(piece, 0, STAYS) for piece, turned, slid in parts]
            self.assertEqual(helper.cutting_row(*stayed), behind(row, back(row)[1:]))
            there = [(helper.spanned(helper.moved(part)), 0, STAYS) for part in parts]
            self.assertEqual(helper.cutting_row(*there), behind(back(row)[1:], row))
            self.assertEqual(row, back(back(row)[1:])[1:])

    def test_one_behind_another_taken_back_is_each_taken_back(self):
        numbers = helper.Numbers(83)
        for _ in range(20):
            first, second = [helper.parts_row(helper.various_parts(numbers, 1, 5, 2)) for _ in range(2)]
            both = back(behind(first, second)[1:])
            self.assertEqual(both, behind(back(second)[1:], back(first)[1:]))


class OneFigureIntoAnother(unittest.TestCase):
    def check(self, w, one, other):
        self.assertEqual(helper.size(one), helper.size(other))
        answer = behind(cut_to_strip(w, one), back(cut_to_strip(w, other))[1:])
        parts = helper.read_cutting(self, answer)
        for part in parts:
            helper.check_piece(self, part[0])
        helper.check_fills_figure(self, [part[0] for part in parts], one)
        helper.check_fills_figure(self, [helper.moved(part) for part in parts], other)
        # And back again.
        helper.check_fills_figure(self, [part[0] for part in helper.read_cutting(self, back(answer[1:]))], other)

    def test_square_into_triangle(self):
        for w in (1, 2, 3, 5, 20):
            self.check(w, [(0, 0), (2, 0), (2, 2), (0, 2)], [(1, 1), (5, 1), (4, 3)])

    def test_with_an_inner_corner(self):
        for w in (1, 3, 8):
            self.check(w, [(0, 0), (2, 0), (2, 2), (0, 2)], [(0, 0), (4, 4), (0, 1), (-4, 4)])
            self.check(w, [(0, 0), (3, 0), (1, 2), (3, 4), (0, 4)], [(0, 0), (8, 0), (8, 2)])

    def test_with_two_slices_beside_each_other(self):
        towers = [(0, 0), (6, 0), (6, 4), (4, 4), (4, 2), (2, 2), (2, 4), (0, 4)]
        for w in (1, 4, 7, 11):
            self.check(w, towers, [(0, 0), (5, 0), (5, 4), (0, 4)])

    def test_leaning(self):
        for w in (2, 9, 13):
            self.check(w, [(0, 0), (4, 2), (2, 5), (-2, 3)], [(0, 0), (8, 0), (8, 4)])

    def test_a_figure_into_itself(self):
        for w, corners in SOME:
            row = cut_to_strip(w, corners)
            parts = helper.read_cutting(self, behind(row, back(row)[1:]))
            helper.check_fills_figure(self, [helper.moved(part) for part in parts], corners)
            self.assertEqual([part[0] for part in parts], [helper.moved(part) for part in parts])


class NothingKept(unittest.TestCase):
    def calls(self):
        """Of each call one that's answered and some that are refused, with lists made anew."""
        figure = [0, 0, 5, 1, 1, 3]
        part = helper.part_row(helper.TRIANGLE, 1, (1, Fraction(1, 2)))
        other = helper.part_row(helper.SQUARE, 0, (-2, -1))
        over = helper.parts_row(helper.many_parts(161))
        return [
            (slices, [list(figure)]), (slices, [figure[:5]]),
            (halved, [slices(figure)[1:17]]), (halved, [[1] * 16]),
            (shear, [[0, 1, 0, 1, 4, 1, 0, 1, 1, 1, 3, 1], [5, 3]]), (shear, [[0, 1] * 6, [5, 3]]),
            (shear, [[0, 1, 0, 1, 4, 1, 0, 1, 1, 1, 3, 1], [61, 1]]),
            (stairs, [[4, 1, 3, 1, 2, 1]]), (stairs, [[4, 1, 3, 1, 5, 1]]),
            (strip, [3, list(figure)]), (strip, [0, list(figure)]), (strip, [1, [-50, 0, 50, 0, -50, 7]]),
            (behind, [list(part), list(other)]), (behind, [part[1:], list(other)]), (behind, [list(over), list(part)]),
            (behind, [list(part), list(over)]), (behind, [[], []]),
            (back, [part + other]), (back, [part + other[1:]]), (back, [list(over)]), (back, [[]]),
            (goes, [part + other, [1, 1, 1, 1]]), (goes, [part + other, [-1, 1, 1, 1]]), (goes, [list(part), [1]]),
            (goes, [list(over), [1]]), (goes, [[], [0, 1, 0, 1]]),
        ]

    def test_what_is_handed_in_stays_as_it_was(self):
        for (call, given), (same, before) in zip(self.calls(), self.calls()):
            call(*given)
            self.assertEqual(before, given)

    def test_each_call_answers_as_the_first_time_whatever_came_between(self):
        first = [call(*given) for call, given in self.calls()]
        kept = [list(answer) for answer in first]
        for answer in first:
            answer.append(7)
            answer[0] = 99
        self.assertEqual(kept, [call(*given) for call, given in self.calls()])
        self.assertEqual(kept[::-1], [call(*given) for call, given in self.calls()[::-1]])

    def test_answers_are_new_lists_of_whole_numbers(self):
        for call, given in self.calls():
            answer = call(*given)
            self.assertIs(list, type(answer))
            self.assertTrue(all(type(number) is int for number in answer))
            self.assertTrue(all(answer is not row for row in given))

    def test_a_refusal_is_its_number_alone(self):
        answers = [call(*given) for call, given in self.calls()]
        self.assertEqual(
            [[number] for number in (
                -22, -22, -22, -28, -22, -22, -28, -22, -28, -28, -22, -28, -33, -22, -28, -33,
            )],
            [answer for answer in answers if answer[0] < 0],
        )


if __name__ == "__main__":
    unittest.main()
