"""How far the leaves of a bound book stand out beyond the outermost ones."""

from gathersheets.books import leaf_count, locate


def creep_of(book, position, thickness):
    """The creep of the leaf at a position; None if the book has no such position."""
    foldings, binding, _ = book
    place = locate(book, position)
    if place is None:
        return None
    sheet, page = place
    if binding == "inset":
        return thickness * _depth((position - 1) // 2, leaf_count(book))
    return thickness * _depth((page - 1) // 2, 1 << len(foldings[sheet]))


def _depth(leaf, leaves):
    return min(leaf, leaves - 1 - leaf)


def widest_creep(book, thickness):
    """The greatest creep of all leaves."""
    foldings, binding, _ = book
    if binding == "inset":
        leaves = leaf_count(book)
    else:
        leaves = max([1 << len(folding) for folding in foldings])
    return thickness * _depth(leaves // 2, leaves)
