"""Books of sheets that are gathered, or set into one another."""

from gathersheets.errors import BadBook
from gathersheets.folding import is_folding
from gathersheets.imposition import impose

MOST_SHEETS = 8
BINDINGS = ("gathered", "inset")


def check_book(book):
    """Refuses what is no book, by the first reason."""
    foldings, binding, pages = book
    if not _are_foldings(foldings):
        raise BadBook("folding")
    if binding not in BINDINGS:
        raise BadBook("binding")
    if binding == "inset" and not all([folding.endswith("L") for folding in foldings]):
        raise BadBook("spine")
    if not isinstance(pages, int) or not 1 <= pages <= position_count(book):
        raise BadBook("pages")


def _are_foldings(foldings):
    if not isinstance(foldings, tuple) or not 1 <= len(foldings) <= MOST_SHEETS:
        return False
    return all([is_folding(folding) for folding in foldings])


def position_count(book):
    """How many positions a book has."""
    return sum([2 << len(folding) for folding in book[0]])


def leaf_count(book):
    """How many leaves a book has."""
    return position_count(book) // 2


def blank_count(book):
    """How many positions of a book are blank."""
    return position_count(book) - book[2]


def _reading_order(book):
    """For each position the pair (sheet, page of the sheet), in the order of the bound book."""
    foldings, binding, _ = book
    ahead = []
    behind = []
    for sheet, folding in enumerate(foldings):
        pages = [(sheet, page) for page in range(1, (2 << len(folding)) + 1)]
        half = len(pages) // 2 if binding == "inset" else len(pages)
        ahead = ahead + pages[:half]
        behind = pages[half:] + behind
    return ahead + behind


def locate(book, position):
    """The pair (sheet, page of the sheet) at a position; None if the book has no such position."""
    order = _reading_order(book)
    return order[position - 1] if 1 <= position <= len(order) else None


def position_of(book, sheet, page):
    """The position of a page of a sheet; None if the book has no such page."""
    return _positions_on(book, sheet).get(page)


def _positions_on(book, sheet):
    """For each page of a sheet its position."""
    order = _reading_order(book)
    return {page: place + 1 for place, (other, page) in enumerate(order) if other == sheet}


def layout_of(book, sheet):
    """The imposition of a sheet with positions in place of its pages; 0 where they are blank."""
    foldings, _, pages = book
    cells = {}
    for page, position in _positions_on(book, sheet).items():
        cells[page] = position if position <= pages else 0
        cells[-page] = -cells[page]
    front, back = impose(foldings[sheet])
    return _replaced(front, cells), _replaced(back, cells)


def _replaced(grid, cells):
    return tuple([tuple([cells[cell] for cell in row]) for row in grid])


def printed_places(book):
    """For each position of a book, blank ones too: (sheet, side, whether it is upright, row, column)."""
    foldings, binding, _ = book
    whole = (foldings, binding, position_count(book))
    places = {}
    for sheet in range(len(foldings)):
        for side, grid in zip(("front", "back"), layout_of(whole, sheet)):
            for row, cells in enumerate(grid):
                for column, cell in enumerate(cells):
                    places[abs(cell)] = (sheet, side, cell > 0, row, column)
    return places
