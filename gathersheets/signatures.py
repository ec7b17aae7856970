"""The letters that tell the sheets of a book, and the marks with them on the leaves."""

from gathersheets.books import locate

LETTERS = "ABCDEFGHIKLMNOPQRSTUXYZ"
SIGNED_SHEETS = 92


def signature(sheet):
    """The signature of a sheet."""
    many = len(LETTERS)
    return LETTERS[sheet % many] * (sheet // many + 1)


def read_signature(text):
    """The sheet whose signature a text is; None if it is none."""
    for sheet in range(SIGNED_SHEETS):
        if signature(sheet) == text:
            return sheet
    return None


def mark_at(book, position):
    """The mark of a position of a book; the empty text where there is none."""
    place = locate(book, position)
    if place is None:
        return ""
    sheet, page = place
    leaf, lower = divmod(page - 1, 2)
    half = 1 << (len(book[0][sheet]) - 1)
    if lower == 1 or leaf >= half:
        return ""
    return signature(sheet) + (str(leaf + 1) if leaf > 0 else "")
