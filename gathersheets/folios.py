"""The numbers that are printed on pages."""

from gathersheets.figures import read_number

NUMERALS = {
    "m": 1000, "cm": 900, "d": 500, "cd": 400,
    "c": 100, "xc": 90, "l": 50, "xl": 40,
    "x": 10, "ix": 9, "v": 5, "iv": 4, "i": 1,
}


def folio(page, front):
    """The folio of a page, for so many front pages; None below the first page."""
    if page < 1:
        return None
    return _roman(page) if page <= front else str(page - front)


def _roman(number):
    text = ""
    for letters, worth in NUMERALS.items():
        text += letters * (number // worth)
        number = number % worth
    return text


def read_folio(text, front):
    """The page whose folio a text is; None if it is none."""
    number = read_number(text)
    if number is not None:
        return front + number if number > 0 else None
    page = _roman_worth(text)
    # What is not in the usual writing, or has other signs, is not written back as it stands.
    return page if 1 <= page <= front and _roman(page) == text else None


def _roman_worth(text):
    """What roman letters are worth together, whether or not they are written as usual."""
    worths = [NUMERALS.get(letter, 0) for letter in text]
    behind = worths[1:] + [0]
    return sum([-worth if worth < other else worth for worth, other in zip(worths, behind)])


def folio_list(layout, front):
    """For each cell of a layout its folio, grids like those of the layout."""
    return tuple([tuple([tuple([_cell_text(cell, front) for cell in row]) for row in grid]) for grid in layout])


def _cell_text(cell, front):
    if cell == 0:
        return "-"
    return folio(cell, front) if cell > 0 else "-" + folio(-cell, front)
