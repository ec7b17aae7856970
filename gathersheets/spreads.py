"""The pairs of pages that face each other in an open book."""

from gathersheets.books import blank_count, position_count, printed_places


def spreads(book):
    """The pairs of positions that face each other."""
    return tuple([(first, first + 1) for first in range(2, position_count(book) - 1, 2)])


def is_natural(book, position):
    """Whether a picture can be printed without a break across the spread that begins at a position."""
    return _is_natural_at(printed_places(book), position)


def natural_firsts(book):
    """The first positions of all natural spreads."""
    places = printed_places(book)
    return tuple([first for first, _ in spreads(book) if _is_natural_at(places, first)])


def _is_natural_at(places, position):
    first = places.get(position)
    second = places.get(position + 1)
    if first is None or second is None or first[:4] != second[:4]:
        return False
    # The back is seen with its columns from right to left, and what lies head down is seen
    # turned round: either exchanges left and right, both together do not.
    side, upright = first[1:3]
    rightwards = 1 if (side == "front") == upright else -1
    return second[4] - first[4] == rightwards


def best_spread_shift(book, firsts):
    """The least even shift with which the most of some spreads are natural, and how many are."""
    places = printed_places(book)
    best, most = 0, -1
    for shift in range(0, blank_count(book) + 1, 2):
        many = len([first for first in firsts if _is_natural_at(places, first + shift)])
        if many > most:
            best, most = shift, many
    return best, most
