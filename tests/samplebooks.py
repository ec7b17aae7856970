"""Books for several tests, and what they show when they are put together sheet by sheet."""

import random

from gathersheets.folding import fold

SHEETS = [("L",), ("TL",), ("L", "TL"), ("TL", "L"), ("LTL", "L", "TL"), ("LTLTL", "TLTL"), ("LL", "BL", "RTL"),
          ("L",) * 8, ("TL", "LTL", "L", "TL", "TTL", "L", "RBRBL", "L"), ("LTLTL",) * 2, ("TTTTL",), ("RL", "LLLLL")]
UNBOUND = [("R",), ("T", "B"), ("LT", "TL", "RB"), ("LTB", "LTLTR"), ("BBBBB", "L", "RRRRR")]


def book_list():
    """Gathered and inset books, with no blanks, one, some, and as many as there can be."""
    drawn = random.Random(11)
    told = []
    for binding, many in (("gathered", SHEETS + UNBOUND), ("inset", SHEETS)):
        for foldings in many:
            positions = sum(2 << len(folding) for folding in foldings)
            for pages in sorted({1, positions // 2, drawn.randint(1, positions), positions - 1, positions}):
                told.append((foldings, binding, pages))
    return told


def bound_pages(foldings, binding):
    """The pages (sheet, page) of a book as it is read: sheets laid behind, or opened in the middle and filled."""
    sheets = [[(k, page) for page in range(1, (2 << len(folding)) + 1)] for k, folding in enumerate(foldings)]
    if binding == "gathered":
        return [page for sheet in sheets for page in sheet]
    inner = []
    for sheet in reversed(sheets):
        middle = len(sheet) // 2
        inner = sheet[:middle] + inner + sheet[middle:]
    return inner


def faces_of(folding):
    """For each page of a sheet (side, column, row, head), by the leaves of its stack."""
    told = {}
    for leaf, (column, row, face, head) in enumerate(fold(folding)):
        sides = ("front", "back") if face == "front" else ("back", "front")
        for number, side in enumerate(sides):
            told[2 * leaf + 1 + number] = (side, column, row, head)
    return told


def printed_at(book):
    """For each position (sheet, side, column, row, head)."""
    foldings, binding, _ = book
    faces = [faces_of(folding) for folding in foldings]
    return {position: (sheet,) + faces[sheet][page]
            for position, (sheet, page) in enumerate(bound_pages(foldings, binding), 1)}
