"""The measures of cases and jackets, and the places of titles on a spine."""

from gathersheets.books import leaf_count
from gathersheets.errors import BadArgument


def bulk(book, thickness):
    """How thick the leaves of a book are together."""
    return leaf_count(book) * thickness


def case(book, page, thickness, board, hinge, square, turn):
    """The measures (board width, board height, spine width, cloth width, cloth height)."""
    width, height = page
    if hinge >= width:
        raise BadArgument("hinge")
    board_width = width - hinge
    board_height = height + 2 * square
    spine_width = bulk(book, thickness) + 2 * board
    cloth_width = _laid_side_by_side(board_width, spine_width, hinge) + 2 * turn
    return board_width, board_height, spine_width, cloth_width, board_height + 2 * turn


def _laid_side_by_side(board_width, spine_width, hinge):
    """How wide both boards, the spine and the hinges between them are."""
    return 2 * board_width + 2 * hinge + spine_width


def jacket(told, hinge, flap):
    """The pair (width, height) of a jacket for a case that was told."""
    board_width, board_height, spine_width, _, _ = told
    return _laid_side_by_side(board_width, spine_width, hinge) + 2 * flap, board_height


def title_places(height, lengths):
    """Where the titles begin on a spine; None if they are longer together than it is high."""
    left = height - sum(lengths)
    if left < 0:
        return None
    gap = left // (len(lengths) + 1)
    places = []
    end = 0
    for length in lengths:
        places.append(end + gap)
        end = end + gap + length
    return tuple(places)
