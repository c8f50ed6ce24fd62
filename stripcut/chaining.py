"""Moves: a point led by a cutting; one cutting behind another; a cutting taken back."""

from stripcut.clipping import common_corners
from stripcut.cuttings import Part, check_count, piece_of
from stripcut.outlines import Outline, has_within
from stripcut.points import opposite, origin, point_sum, way
from stripcut.refusals import InNoPart


def moved_point(part, point):
    return point_sum(turned_point(part, point), part.slid)


def moved_back(part, point):
    return turned_point(part, way(part.slid, point))


def turned_point(part, point):
    """The point turned half round about 0, 0 if the part is turned; a half turn is taken back by another one."""
    return opposite(point) if part.turned == 1 else point


def moved_corners(part):
    return [moved_point(part, corner) for corner in part.piece]


def led_point(parts, point):
    """Where the point goes by the first part in which, or on whose border, it lies."""
    for part in parts:
        if has_within(Outline(part.piece), point):
            return moved_point(part, point)
    raise InNoPart("the point lies in no part")


def cutting_behind(first, second):
    """The parts of the second cutting behind the first one."""
    outlines = [Outline(part.piece) for part in second]
    made = []
    for part in first:
        there = Outline(moved_corners(part))
        for follower, outline in zip(second, outlines):
            corners = common_corners(there, outline)
            if len(corners) > 0:
                made.append(chained_part(part, follower, corners))
                # Asked at once, so that a cutting that's too much isn't made to its end.
                check_count(made)
    return made


def chained_part(part, follower, corners):
    """What the two parts have in common: its corners, given as the first part moves them, moved back."""
    piece = piece_of([moved_back(part, corner) for corner in corners])
    # A half turn leaves 0, 0 where it is: so a move slides by the point to which it leads 0, 0.
    return Part(piece, part.turned ^ follower.turned, moved_point(follower, part.slid))


def taken_back(parts):
    return [part_back(part) for part in parts]


def part_back(part):
    # Again the slide is the point to which 0, 0 is led, here by the move back.
    return Part(piece_of(moved_corners(part)), part.turned, moved_back(part, origin()))


def slid_on(parts, slide):
    """The cutting with each part slid on behind its move."""
    return [Part(part.piece, part.turned, point_sum(part.slid, slide)) for part in parts]
