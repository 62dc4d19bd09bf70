"""Folding: a strip that is folded move by move, and the layers of its pieces."""

from flatstrip.errors import NothingDone
from flatstrip.moves import FIRST, LAST, taken
from flatstrip.strips import VALLEY


class Fold:
    """A strip that is folded move by move; each move can be taken back."""

    def __init__(self, strip):
        lengths, marks = strip
        # The strip as it began, and as each move that is done has left it; the piles likewise.
        self._strips = [(list(lengths), list(marks))]
        self._piles = [[[piece] for piece in range(len(lengths))]]
        self._taken = []

    def here(self):
        """Return the strip as it is by now."""
        lengths, marks = self._strips[-1]
        return list(lengths), list(marks)

    def done(self):
        """Return the moves that were done and not taken back."""
        return list(self._taken)

    def layers(self):
        """Return the layers of each piece, by pieces, from the lowest one up."""
        return [list(pile) for pile in self._piles[-1]]

    def take(self, move):
        """Do a move; NoFold for whatever is none of the moves of the strip as it is."""
        strip = self._strips[-1]
        # This stands first because it refuses: a move that is refused is not done.
        self._strips.append(taken(strip, move))
        self._piles.append(_piles_behind(self._piles[-1], strip[1], move))
        self._taken.append(move)

    def back(self):
        """Take the last move back, and return it; NothingDone where there is none."""
        if not self._taken:
            raise NothingDone("no move was done that could be taken back")
        self._strips.pop()
        self._piles.pop()
        return self._taken.pop()


def _piles_behind(piles, marks, move):
    """Return the layers of each piece behind a move, from those ahead of it and the marks ahead of it."""
    if move == FIRST:
        return [_end_laid(piles[0], piles[1], marks[0])] + piles[2:]
    if move == LAST:
        return piles[:-2] + [_end_laid(piles[-1], piles[-2], marks[-1])]
    crease = move[1]
    pleated = _pleat_laid(piles[crease], piles[crease + 1], piles[crease + 2], marks[crease])
    return piles[:crease] + [pleated] + piles[crease + 3:]


def _end_laid(end, piece, mark):
    """Return the layers of a piece that an end is laid over or beneath."""
    return piece + end[::-1] if mark == VALLEY else end[::-1] + piece


def _pleat_laid(first, middle, last, mark):
    """Return the layers of a pleat; the mark is that of its first crease."""
    return first + middle[::-1] + last if mark == VALLEY else last + middle[::-1] + first
