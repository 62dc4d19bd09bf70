"""Moves: the ends and the pleats that a strip may be folded by, one behind the other."""

from flatstrip.errors import NoFold
from flatstrip.strips import part

FIRST = ("first",)
LAST = ("last",)


def moves(strip):
    """Return the moves of the strip: first, last, pleats by their creases."""
    lengths, marks = strip
    found = []
    if marks and lengths[0] <= lengths[1]:
        found.append(FIRST)
    if marks and lengths[-1] <= lengths[-2]:
        found.append(LAST)
    return found + _pleats(strip)


def _pleats(strip):
    return [("pleat", crease) for crease in range(len(strip[1]) - 1) if _is_pleat(strip, crease)]


def _is_pleat(strip, crease):
    lengths, marks = strip
    shortest = min(lengths[crease], lengths[crease + 2])
    return marks[crease] != marks[crease + 1] and lengths[crease + 1] <= shortest


def taken(strip, move):
    """Return the strip behind a move; NoFold for whatever is none of its moves."""
    if not _is_move(strip, move):
        raise NoFold("this is none of the moves of the strip")
    last = len(strip[0]) - 1
    if move == FIRST:
        return part(strip, 1, last)
    if move == LAST:
        return part(strip, 0, last - 1)
    return _behind_pleat(strip, move[1])


def _is_move(strip, move):
    if type(move) is not tuple:
        return False
    # True equals 1 and would be found among the moves.
    if not all([type(word) in (str, int) for word in move]):
        return False
    return move in moves(strip)


def _behind_pleat(strip, crease):
    lengths, marks = strip
    length = lengths[crease] - lengths[crease + 1] + lengths[crease + 2]
    return lengths[:crease] + [length] + lengths[crease + 3:], marks[:crease] + marks[crease + 2:]
