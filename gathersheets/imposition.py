"""Where the pages of a folded sheet are printed, and which way up."""

from gathersheets.figures import are_integers
from gathersheets.folding import OTHER_FACE, fold, sheet_size


def impose(folding):
    """The layout of a folding with all its pages."""
    columns, rows = sheet_size(folding)
    front = [[0] * columns for _ in range(rows)]
    back = [[0] * columns for _ in range(rows)]
    for leaf, (column, row, face, head) in enumerate(fold(folding)):
        way = 1 if head == "up" else -1
        upper, lower = (front, back) if face == "front" else (back, front)
        upper[row][column] = way * (2 * leaf + 1)
        lower[row][column] = way * (2 * leaf + 2)
    return tuple([tuple(row) for row in front]), tuple([tuple(row) for row in back])


def locate_page(folding, page):
    """The side, the column, the row and the head of a page; None if the sheet has no such page."""
    stack = fold(folding)
    leaf = (page - 1) // 2
    if not 0 <= leaf < len(stack):
        return None
    column, row, face, head = stack[leaf]
    side = face if page % 2 == 1 else OTHER_FACE[face]
    return side, column, row, head


def reads_on(folding, layout):
    """Whether a layout is the imposition of a folding, whatever it is."""
    return _is_layout(layout) and layout == impose(folding)


def _is_layout(thing):
    return isinstance(thing, tuple) and len(thing) == 2 and all([is_grid(grid) for grid in thing])


def is_grid(thing):
    """Whether it is a tuple of rows of integers, whatever it is."""
    return isinstance(thing, tuple) and all([are_integers(row) for row in thing])
