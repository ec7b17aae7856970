"""At which edges of the folded stack its creases lie, and which leaves they join."""

from gathersheets.folding import fold, sheet_size

EDGES = {"L": "left", "R": "right", "T": "top", "B": "bottom"}
BY_SIDES = {"left": "right", "right": "left"}
BY_ENDS = {"top": "bottom", "bottom": "top"}


def joints(folding):
    """All creases as (leaf, leaf, edge), ordered."""
    leaves = {leaf[:2]: number for number, leaf in enumerate(fold(folding))}
    found = []
    for panel in list(leaves):
        column, row = panel
        for other in ((column + 1, row), (column, row + 1)):
            if other in leaves:
                lesser, greater = sorted([leaves[panel], leaves[other]])
                found.append((lesser, greater, _edge(folding, panel, other)))
    return tuple(sorted(found))


def loose_leaves(folding):
    """The leaves that have no joint at the left, ascending."""
    held = {}
    for lesser, greater, edge in joints(folding):
        if edge == "left":
            held[lesser] = True
            held[greater] = True
    return tuple([leaf for leaf in range(1 << len(folding)) if leaf not in held])


def _edge(folding, panel, other):
    """The edge at which the crease between two neighbours lies at the end."""
    edge = ""
    for letter, first, second in zip(folding, _path(folding, panel), _path(folding, other)):
        turned = first[2]
        if edge == "":
            # Neighbours come to lie in one stack by the fold that makes their crease.
            edge = EDGES[letter] if first[:2] == second[:2] else ""
        elif turned and letter in "LR":
            edge = BY_SIDES.get(edge, edge)
        elif turned:
            edge = BY_ENDS.get(edge, edge)
    return edge


def _path(folding, panel):
    """For each fold: the column and the row of the panel's stack behind it, and whether it was turned over."""
    column, row = panel
    columns, rows = sheet_size(folding)
    told = []
    for letter in folding:
        if letter in "LR":
            columns = columns // 2
            column, turned = _moved(letter, column, columns)
        else:
            rows = rows // 2
            row, turned = _moved(letter, row, rows)
        told.append((column, row, turned))
    return told


def _moved(letter, place, half):
    """Where a place comes to lie by a fold that leaves half of the places, and whether it is turned over."""
    if letter in "LT":
        return (half - 1 - place, True) if place < half else (place - half, False)
    return (2 * half - 1 - place, True) if place >= half else (place, False)
