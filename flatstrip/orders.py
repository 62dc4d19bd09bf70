"""Orders: the pieces of a folded strip from the lowest one up, and what is wrong with them."""

from flatstrip.errors import BadOrder
from flatstrip.lying import place_of, spans
from flatstrip.strips import HILL, VALLEY


def need_order(strip, order):
    """Return True; BadOrder for whatever is no order of the strip."""
    if not _is_order(order, len(strip[0])):
        raise BadOrder("an order is a list of all pieces of the strip, each once")
    return True


def _is_order(order, pieces):
    if type(order) is not list or len(order) != pieces:
        return False
    # True equals 1 and would pass the comparison below.
    if not all([type(piece) is int for piece in order]):
        return False
    return sorted(order) == list(range(pieces))


def faults(strip, order):
    """Return the faults of an order: those of marks, then "through", then "crossed", each rising."""
    need_order(strip, order)
    heights = _heights(order)
    return _mark_faults(strip, heights) + _through_faults(strip, heights) + _crossed_faults(strip, heights)


def lies(strip, order):
    """Tell whether the order has no fault."""
    return faults(strip, order) == []


def over_place(strip, order, place):
    """Return the pieces that lie over the stretch from a place to the next one, from the lowest up."""
    need_order(strip, order)
    held = spans(strip)
    return [piece for piece in order if held[piece][0] <= place < held[piece][1]]


def _heights(order):
    """Return at which height of the order each piece lies, by pieces."""
    heights = [0] * len(order)
    for height, piece in enumerate(order):
        heights[piece] = height
    return heights


def _mark_faults(strip, heights):
    found = []
    for crease, mark in enumerate(strip[1]):
        if mark != _mark_as_lying(heights, crease):
            found.append(("mark", crease))
    return found


def _mark_as_lying(heights, crease):
    """Return the mark that tells how the two pieces of a crease lie."""
    even = crease + crease % 2
    odd = crease + 1 - crease % 2
    return VALLEY if heights[odd] > heights[even] else HILL


def _through_faults(strip, heights):
    found = []
    held = spans(strip)
    for crease in range(len(strip[1])):
        place = place_of(strip, crease)
        for piece, (low, high) in enumerate(held):
            if low < place < high and _between(heights, crease, piece):
                found.append(("through", crease, piece))
    return found


def _crossed_faults(strip, heights):
    found = []
    creases = len(strip[1])
    for crease in range(creases):
        # Only every second crease lies on the same side as this one.
        for other in range(crease + 2, creases, 2):
            if place_of(strip, crease) == place_of(strip, other) and _crossing(heights, crease, other):
                found.append(("crossed", crease, other))
    return found


def _crossing(heights, crease, other):
    """Tell whether just one of the other crease's pieces lies between those of the crease."""
    return _between(heights, crease, other) != _between(heights, crease, other + 1)


def _between(heights, crease, piece):
    """Tell whether a piece lies between the two of a crease; neither of these two does."""
    low = min(heights[crease], heights[crease + 1])
    high = max(heights[crease], heights[crease + 1])
    return low < heights[piece] < high
