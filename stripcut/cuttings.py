"""Cuttings: parts, each a piece and the move that it's moved by."""

from stripcut.points import is_before, point_numbers


class Part:
    def __init__(self, piece, turned, slid):
        # turned is 1 if the piece is first turned half round about 0, 0, else 0.
        self.piece = piece
        self.turned = turned
        self.slid = slid


def cutting_numbers(parts):
    row = []
    for part in parts:
        row.append(len(part.piece))
        for corner in part.piece:
            row.extend(point_numbers(corner))
        row.append(part.turned)
        row.extend(point_numbers(part.slid))
    return row


def piece_of(corners):
    """The piece with these corners, from its leftmost one on; one that stands twice in a row counts once."""
    count = len(corners)
    row = [corners[k] for k in range(count) if corners[k] != corners[(k + 1) % count]]
    first = 0
    for k in range(len(row)):
        if is_before(row[k], row[first]):
            first = k
    return row[first:] + row[:first]
