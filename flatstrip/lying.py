"""How the pieces of a folded strip lie along the line of places."""


def spans(strip):
    """Return the span of each piece, by pieces: its lesser and its greater place."""
    ends = _ends(strip)
    begins = [0] + ends[:-1]
    return [(min(begin, end), max(begin, end)) for begin, end in zip(begins, ends)]


def place_of(strip, crease):
    """Return the place of a crease."""
    return _ends(strip)[crease]


def _ends(strip):
    """Return the place where each piece ends, by pieces."""
    ends = []
    place = 0
    for piece, length in enumerate(strip[0]):
        place += length if piece % 2 == 0 else -length
        ends.append(place)
    return ends
