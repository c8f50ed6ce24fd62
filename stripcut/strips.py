"""The calls. Each takes flat lists of whole numbers and answers one; a refusal is its number alone."""

from stripcut.cuttings import cutting_numbers
from stripcut.figures import read_figure
from stripcut.halving import slice_halved
from stripcut.refusals import NotAsTold
from stripcut.slicing import read_slice, slice_numbers, slices_of


def slices(f):
    """How many slices figure f has, then of each its four points."""
    try:
        corners = read_figure(f)
    except NotAsTold:
        return [-22]
    found = slices_of(corners)
    answer = [len(found)]
    for told in found:
        answer.extend(slice_numbers(told))
    return answer


def halved(s):
    """How many parts, then slice s halved."""
    try:
        told = read_slice(s)
    except NotAsTold:
        return [-22]
    parts = slice_halved(told)
    return [len(parts)] + cutting_numbers(parts)
