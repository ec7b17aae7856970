"""Pictures of the marks of a pile."""

from gathersheets.collation import marks_of

MARK = "#"
NO_MARK = "."


def picture(pile, steps):
    """A line for each step, with a sign for each place of a pile."""
    marks = marks_of(pile, steps)
    return "\n".join(["".join([MARK if mark == step else NO_MARK for mark in marks]) for step in range(steps)])


def read_picture(text):
    """The steps of the marks in a picture; None for a text that is no picture."""
    lines = text.split("\n")
    if any([len(line) != len(lines[0]) for line in lines]):
        return None
    if any([sign not in (MARK, NO_MARK) for line in lines for sign in line]):
        return None
    columns = ["".join([line[place] for line in lines]) for place in range(len(lines[0]))]
    if any([column.count(MARK) != 1 for column in columns]):
        return None
    return tuple([column.index(MARK) for column in columns])
