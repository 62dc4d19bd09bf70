"""The whole strip: whether it folds, and orders in which its pieces lie then."""

from flatstrip.errors import TooMany
from flatstrip.folding import Fold
from flatstrip.moves import FIRST, moves
from flatstrip.orders import lies
from flatstrip.strips import part

MOST_ORDERED = 6


def reduced(strip):
    """Return the moves by which the strip is reduced, and the strip that is left."""
    fold = _fold_through(strip)
    return fold.done(), fold.here()


def folds(strip):
    """Tell whether the strip folds."""
    return len(reduced(strip)[1][0]) == 1


def layered(strip):
    """Return an order of the strip that lies; None where there is none."""
    fold = _fold_through(strip)
    piles = fold.layers()
    if len(piles) > 1:
        return None
    # Only a first move lays what piece 0 is in upside down, so two of them lay it as it lay.
    upside_down = fold.done().count(FIRST) % 2 == 1
    return piles[0][::-1] if upside_down else piles[0]


def _fold_through(strip):
    """Return the strip folded by the first of its moves, again and again until there is none."""
    fold = Fold(strip)
    left = moves(fold.here())
    while left:
        fold.take(left[0])
        left = moves(fold.here())
    return fold


def orders_of(strip):
    """Return all orders of the strip that lie, rising; TooMany for more than six pieces."""
    pieces = len(strip[0])
    if pieces > MOST_ORDERED:
        raise TooMany(f"all orders are told of at most {MOST_ORDERED} pieces")
    # An order that lies does so without the last piece, too: so each is found by adding pieces to shorter ones.
    orders = [[0]]
    for piece in range(1, pieces):
        orders = _orders_with(piece, part(strip, 0, piece), orders)
    return sorted(orders)


def _orders_with(piece, strip, orders):
    """Return the orders of the strip that lie, each being one of the orders with the piece added to it."""
    found = []
    for order in orders:
        for height in range(len(order) + 1):
            longer = order[:height] + [piece] + order[height:]
            if lies(strip, longer):
                found.append(longer)
    return found
