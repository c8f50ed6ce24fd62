"""Cuttings: parts, each a piece and the move that it's moved by."""

from stripcut.outlines import Outline, is_piece
from stripcut.points import POINT_LENGTH, is_before, point_numbers, read_point, read_points
from stripcut.refusals import NotAsTold, TooMuch

FEWEST_CORNERS = 3
MOST_CORNERS = 40
MOST_PARTS = 160


class Part:
    def __init__(self, piece, turned, slid):
        # turned is 1 if the piece is first turned half round about 0, 0, else 0.
        self.piece = piece
        self.turned = turned
        self.slid = slid


def read_cutting(row):
    """The parts that the row tells; their pieces begin with the corner that they're told from."""
    parts = []
    start = 0
    while start < len(row):
        end = part_end(row, start)
        parts.append(read_part(row[start:end]))
        start = end
    return parts


def part_end(row, start):
    """Where the numbers of the part end that begins at start."""
    count = row[start]
    if count < FEWEST_CORNERS or count > MOST_CORNERS:
        raise NotAsTold("a piece has 3 to 40 corners")
    end = start + 1 + POINT_LENGTH * count + 1 + POINT_LENGTH
    if end > len(row):
        raise NotAsTold("a part has fewer numbers than it should")
    return end


def read_part(numbers):
    move = 1 + POINT_LENGTH * numbers[0]
    corners = read_points(numbers[1:move])
    turned = numbers[move]
    if turned != 0 and turned != 1:
        raise NotAsTold("a part is turned, 1, or not, 0")
    slid = read_point(numbers[move + 1:])
    if not is_piece(Outline(corners)):
        raise NotAsTold("from a side a corner doesn't lie on the left")
    return Part(corners, turned, slid)


def check_count(parts):
    if len(parts) > MOST_PARTS:
        raise TooMuch("a cutting has more than 160 parts")


def cutting_numbers(parts):
    row = []
    for part in parts:
        row.append(len(part.piece))
        for corner in part.piece:
            row.extend(point_numbers(corner))
        row.append(part.turned)
        row.extend(point_numbers(part.slid))
    return row


def piece_of(corners):
    """The piece with these corners, from its leftmost one on; one that stands twice in a row counts once."""
    count = len(corners)
    row = [corners[k] for k in range(count) if corners[k] != corners[(k + 1) % count]]
    first = 0
    for k in range(len(row)):
        if is_before(row[k], row[first]):
            first = k
    return row[first:] + row[:first]
