"""Strips: tuples of two lists, the lengths of the pieces and the marks of the creases."""

from flatstrip.errors import BadStrip

MOST_PIECES = 30
MOST_LENGTH = 1000
HILL = "hill"
VALLEY = "valley"


def checked(strip):
    """Return the same strip in new lists; BadStrip for whatever is no strip."""
    if type(strip) is not tuple or len(strip) != 2:
        raise BadStrip("a strip is a tuple of two lists")
    lengths, marks = strip
    if not _are_lengths(lengths):
        raise BadStrip(f"the lengths are a list of 1 to {MOST_PIECES} whole numbers from 1 to {MOST_LENGTH}")
    if not _are_marks(marks, len(lengths) - 1):
        raise BadStrip("the marks are a list of one text fewer than the lengths, each hill or valley")
    return list(lengths), list(marks)


def _are_lengths(lengths):
    # isinstance would take True for an int, and would let in subclasses that answer by code of their own.
    if type(lengths) is not list or not 1 <= len(lengths) <= MOST_PIECES:
        return False
    return all([type(length) is int and 1 <= length <= MOST_LENGTH for length in lengths])


def _are_marks(marks, creases):
    if type(marks) is not list or len(marks) != creases:
        return False
    return all([type(mark) is str and mark in (HILL, VALLEY) for mark in marks])


def turned(strip):
    """Return the strip turned end for end."""
    lengths, marks = strip
    return lengths[::-1], marks[::-1]


def over(strip):
    """Return the strip turned over."""
    lengths, marks = strip
    return list(lengths), [VALLEY if mark == HILL else HILL for mark in marks]


def part(strip, first, last):
    """Return the strip of the pieces from first up to last, and of the creases between them."""
    lengths, marks = strip
    return lengths[first:last + 1], marks[first:last]
