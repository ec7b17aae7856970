"""Which pages are printed together, and how many plates the inks of a book need."""

from gathersheets.books import blank_count, layout_of, printed_places
from gathersheets.errors import BadArgument


def pages_on(book, sheet, side):
    """The pages on one side of a sheet, ascending."""
    front, back = layout_of(book, sheet)
    grid = front if side == "front" else back
    return tuple(sorted([abs(cell) for row in grid for cell in row if cell != 0]))


def plates(book, shift, inks):
    """How many plates the inks need in a book that is shifted."""
    if not 0 <= shift <= blank_count(book):
        raise BadArgument("shift")
    return _plate_count(_forms_of(book), shift, _own_pages(book, inks))


def best_shift(book, inks):
    """The pair (shift, plates) of the least shift with the fewest plates."""
    forms = _forms_of(book)
    pages = _own_pages(book, inks)
    counts = [(_plate_count(forms, shift, pages), shift) for shift in range(blank_count(book) + 1)]
    fewest, shift = min(counts)
    return shift, fewest


def _forms_of(book):
    """For each position the form on which it is printed."""
    return {position: place[:2] for position, place in printed_places(book).items()}


def _own_pages(book, inks):
    """For each ink those of its pages that the book has."""
    return [[page for page in ink if 1 <= page <= book[2]] for ink in inks]


def _plate_count(forms, shift, inks):
    return sum([len({forms[page + shift] for page in ink}) for ink in inks])
