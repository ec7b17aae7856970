"""The texts of books and of layouts."""

from gathersheets.books import BINDINGS, MOST_SHEETS, check_book
from gathersheets.errors import BadBook, BadText
from gathersheets.figures import read_number
from gathersheets.folding import is_folding

MOST_FIGURES = 6
SHEET = "sheet "


def book_text(book):
    """The text of a book."""
    foldings, binding, pages = book
    return "\n".join([f"book {binding} {pages}"] + [SHEET + folding for folding in foldings])


def parse_book(text):
    """The book that has this text."""
    lines = text.split("\n")
    head = _read_head(lines[0])
    if head is None:
        raise BadText(1, "not a line")
    foldings = []
    for number, line in enumerate(lines[1:], start=2):
        folding = line.removeprefix(SHEET)
        if not line.startswith(SHEET) or not is_folding(folding):
            raise BadText(number, "not a line")
        if len(foldings) == MOST_SHEETS:
            raise BadText(number, "too many sheets")
        foldings.append(folding)
    binding, pages = head
    book = (tuple(foldings), binding, pages)
    try:
        check_book(book)
    except BadBook as refused:
        raise BadText(1, refused.reason) from None
    return book


def _read_head(line):
    """The pair (binding, pages) of the first line of a text; None if it is none."""
    words = line.split(" ")
    if len(words) != 3 or words[0] != "book" or words[1] not in BINDINGS or len(words[2]) > MOST_FIGURES:
        return None
    pages = read_number(words[2])
    return None if pages is None else (words[1], pages)


def layout_text(layout):
    """The text of a layout."""
    front, back = layout
    return "\n".join(_row_lines(front) + ["back"] + _row_lines(back))


def _row_lines(grid):
    return [" ".join([str(cell) for cell in row]) for row in grid]
