"""Forms that are printed on both sides of a sheet, which is cut into two copies."""

from gathersheets.imposition import impose, is_grid


def turn_form(folding):
    """The form of a folding for work and turn."""
    front, back = impose(folding)
    return tuple([left + right[::-1] for left, right in zip(front, back)])


def tumble_form(folding):
    """The form of a folding for work and tumble."""
    front, back = impose(folding)
    return front + _tumbled(back)


def _tumbled(grid):
    """The rows from the last to the first, each cell with the other way up."""
    return tuple([tuple([-cell for cell in row]) for row in reversed(grid)])


def two_copies(form, way):
    """The layouts of both copies of a form that is printed on both sides of a sheet, and cut."""
    if way == "turn":
        behind = tuple([row[::-1] for row in form])
        half = len(form[0]) // 2 if len(form) > 0 else 0
        left = (_columns(form, 0, half), _columns(behind, 0, half))
        right = (_columns(form, half, 2 * half), _columns(behind, half, 2 * half))
        return left, right
    behind = _tumbled(form)
    half = len(form) // 2
    return (form[:half], behind[:half]), (form[half:], behind[half:])


def _columns(grid, begin, end):
    return tuple([row[begin:end] for row in grid])


def is_good_form(folding, form, way):
    """Whether both copies of a form have the imposition of a folding, whatever the form is."""
    # Each copy has the other one's cells behind its own: with the first copy the second one is
    # right too, so that the folding's own form alone is good.
    if way == "turn":
        return is_grid(form) and form == turn_form(folding)
    return is_grid(form) and form == tumble_form(folding)
