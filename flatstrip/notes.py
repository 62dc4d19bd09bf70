"""Notes: strips written as texts, and read from them."""

from flatstrip.errors import BadText
from flatstrip.strips import HILL, MOST_LENGTH, MOST_PIECES, VALLEY

VALLEY_SIGN = "v"
HILL_SIGN = "h"


def written(strip):
    """Return the strip as a text."""
    lengths, marks = strip
    words = [str(lengths[0])]
    for mark, length in zip(marks, lengths[1:]):
        words.append(VALLEY_SIGN if mark == VALLEY else HILL_SIGN)
        words.append(str(length))
    return " ".join(words)


def read(text):
    """Return the strip that the text is written for; BadText for whatever is no such text."""
    if type(text) is not str:
        raise BadText("a strip is read from a text")
    # Not split(): exactly one blank stands between neighbours, and blanks too many leave empty words here.
    words = text.split(" ")
    figures = words[::2]
    signs = words[1::2]
    if len(figures) != len(signs) + 1 or len(figures) > MOST_PIECES:
        raise BadText(f"a text has 1 to {MOST_PIECES} lengths, and a sign between any two")
    if not all([_is_length(word) for word in figures]):
        raise BadText(f"a length is written by figures, from 1 to {MOST_LENGTH}, the first no 0")
    if not all([sign in (VALLEY_SIGN, HILL_SIGN) for sign in signs]):
        raise BadText(f"a sign between two lengths is {VALLEY_SIGN} or {HILL_SIGN}")
    return [int(word) for word in figures], [VALLEY if sign == VALLEY_SIGN else HILL for sign in signs]


def _is_length(word):
    # isdigit alone would let figures of other scripts in, and int refuses words of thousands of figures.
    if not word.isascii() or not word.isdigit() or len(word) > len(str(MOST_LENGTH)):
        return False
    return word[0] != "0" and int(word) <= MOST_LENGTH
