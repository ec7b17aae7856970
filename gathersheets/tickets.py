"""Tickets that lie in their order when their sheets are cut into piles and these are laid on one another."""

from gathersheets.figures import rounded_up


def ticket_sheets(many, columns, rows):
    """The fewest sheets for so many tickets, each one a grid."""
    places = columns * rows
    sheets = rounded_up(many, places)
    told = []
    for sheet in range(sheets):
        tickets = [place * sheets + sheet + 1 for place in range(places)]
        told.append(_grid([ticket if ticket <= many else 0 for ticket in tickets], columns))
    return tuple(told)


def _grid(cells, columns):
    return tuple([tuple(cells[begin:begin + columns]) for begin in range(0, len(cells), columns)])


def stacked(grids):
    """The cells of sheets that are cut and laid so, from the top."""
    sheets = [[cell for row in grid for cell in row] for grid in grids]
    return tuple([cell for pile in zip(*sheets) for cell in pile])
