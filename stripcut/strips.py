"""The calls. Each takes flat lists of whole numbers and answers one; a refusal is its number alone."""

from stripcut.chaining import cutting_behind, led_point, taken_back
from stripcut.cuttings import check_count, cutting_numbers, read_cutting
from stripcut.figures import read_figure
from stripcut.halving import slice_halved
from stripcut.laying import read_width, strip_parts
from stripcut.points import point_numbers, read_point
from stripcut.ratios import read_ratio
from stripcut.refusals import InNoPart, NotAsTold, TooMuch
from stripcut.shearing import read_four_sides, sheared
from stripcut.slicing import read_slice, slice_numbers, slices_of
from stripcut.stepping import read_stairs, stairs_parts


def slices(f):
    """How many slices figure f has, then of each its four points."""
    try:
        corners = read_figure(f)
    except NotAsTold:
        return [-22]
    found = slices_of(corners)
    answer = [len(found)]
    for told in found:
        answer.extend(slice_numbers(told))
    return answer


def halved(s):
    """How many parts, then slice s halved."""
    try:
        told = read_slice(s)
    except NotAsTold:
        return [-22]
    return cutting_answer(slice_halved(told))


def shear(g, k):
    """How many parts, then the cutting by shearing g (o, u, v) by the fraction k."""
    try:
        parts = sheared(read_four_sides(g), read_ratio(k))
    except NotAsTold:
        return [-22]
    except TooMuch:
        return [-28]
    return cutting_answer(parts)


def stairs(q):
    """How many parts, then the cutting by stairs; q is a, b, c."""
    try:
        sizes = read_stairs(q)
    except NotAsTold:
        return [-22]
    return cutting_answer(stairs_parts(sizes[0], sizes[1], sizes[2]))


def strip(w, f):
    """How many parts, then figure f's cutting to its strip, w wide."""
    try:
        parts = strip_parts(read_figure(f), read_width(w))
    except NotAsTold:
        return [-22]
    except TooMuch:
        return [-28]
    return cutting_answer(parts)


def behind(c, d):
    """How many parts, then cutting d behind cutting c."""
    try:
        first = read_limited(c)
        second = read_limited(d)
        parts = cutting_behind(first, second)
    except NotAsTold:
        return [-22]
    except TooMuch:
        return [-28]
    return cutting_answer(parts)


def back(c):
    """How many parts, then cutting c taken back."""
    try:
        parts = read_limited(c)
    except NotAsTold:
        return [-22]
    except TooMuch:
        return [-28]
    return cutting_answer(taken_back(parts))


def goes(c, z):
    """1, then the point to which point z goes by cutting c."""
    try:
        parts = read_limited(c)
        point = led_point(parts, read_point(z))
    except NotAsTold:
        return [-22]
    except TooMuch:
        return [-28]
    except InNoPart:
        return [-33]
    return [1] + point_numbers(point)


def read_limited(row):
    """The parts of the cutting that the row tells, which mustn't be too many."""
    parts = read_cutting(row)
    check_count(parts)
    return parts


def cutting_answer(parts):
    return [len(parts)] + cutting_numbers(parts)
