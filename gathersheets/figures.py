"""What several parts do with numbers: dividing them and rounding up, reading them, and telling them."""

FIGURES = "0123456789"


def rounded_up(many, size):
    """How many of a size hold so many."""
    return (many + size - 1) // size


def read_number(text):
    """The number that a text has in figures, without a zero ahead; None for other texts."""
    if text == "" or not all([sign in FIGURES for sign in text]):
        return None
    if text.startswith("0") and text != "0":
        return None
    # Python's own reading refuses very many figures.
    number = 0
    for sign in text:
        number = 10 * number + FIGURES.index(sign)
    return number


def are_integers(thing):
    """Whether it is a tuple of integers, whatever it is."""
    return isinstance(thing, tuple) and all([isinstance(part, int) for part in thing])
