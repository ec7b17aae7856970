"""How a sheet lies folded, and which folding has a given stack."""

from gathersheets.figures import are_integers

MOST_FOLDS = 5
OTHER_FACE = {"front": "back", "back": "front"}
OTHER_HEAD = {"up": "down", "down": "up"}


def is_folding(text):
    """Whether it is a folding, whatever it is."""
    if not isinstance(text, str):
        return False
    return 1 <= len(text) <= MOST_FOLDS and all(letter in "LRTB" for letter in text)


def sheet_size(folding):
    """The columns and rows of the sheet that is folded."""
    across = folding.count("L") + folding.count("R")
    return 1 << across, 1 << (len(folding) - across)


def fold(folding):
    """The stack at the end: its leaves, from the top."""
    return states(folding)[-1][0][0]


def states(folding):
    """What lies there ahead of the first fold, and behind each fold."""
    now = _flat_sheet(sheet_size(folding))
    told = [now]
    for letter in folding:
        now = _folded_across(now, letter) if letter in "LR" else _folded_down(now, letter)
        told.append(now)
    return tuple(told)


def _flat_sheet(size):
    columns, rows = size
    return tuple([_flat_row(columns, row) for row in range(rows)])


def _flat_row(columns, row):
    return tuple([((column, row, "front", "up"),) for column in range(columns)])


def _folded_across(rows, letter):
    pairs = _meeting(letter, len(rows[0]))
    folded = []
    for row in rows:
        over = [row[upper] for upper, _ in pairs]
        under = [row[lower] for _, lower in pairs]
        folded.append(_laid_on(over, under, letter))
    return tuple(folded)


def _folded_down(rows, letter):
    pairs = _meeting(letter, len(rows))
    return tuple([_laid_on(rows[upper], rows[lower], letter) for upper, lower in pairs])


def _meeting(letter, many):
    """For each place behind a fold: the place that is turned over, and the one below it."""
    half = many // 2
    if letter in "LT":
        return [(half - 1 - place, half + place) for place in range(half)]
    return [(many - 1 - place, place) for place in range(half)]


def _laid_on(over, under, letter):
    return tuple([_turned(upper, letter) + lower for upper, lower in zip(over, under)])


def _turned(stack, letter):
    return tuple([_turned_leaf(leaf, letter) for leaf in reversed(stack)])


def _turned_leaf(leaf, letter):
    column, row, face, head = leaf
    if letter in "TB":
        head = OTHER_HEAD[head]
    return column, row, OTHER_FACE[face], head


def place_of(folding, panel):
    """The number, the face and the head of the leaf that a panel is; None if the sheet has no such panel."""
    for leaf, (column, row, face, head) in enumerate(fold(folding)):
        if (column, row) == panel:
            return leaf, face, head
    return None


def find_folding(panels):
    """The folding whose stack has these panels, from the top; None for whatever else it is."""
    if not _are_panels(panels):
        return None
    folding = _only_candidate(panels)
    stack = tuple([leaf[:2] for leaf in fold(folding)])
    return folding if stack == panels else None


def _are_panels(panels):
    if not isinstance(panels, tuple):
        return False
    if len(panels) not in [1 << folds for folds in range(1, MOST_FOLDS + 1)]:
        return False
    return all([_is_panel(panel) for panel in panels])


def _is_panel(panel):
    return are_integers(panel) and len(panel) == 2


def _only_candidate(panels):
    """The only folding whose stack can have these panels."""
    # The lowest leaf is never turned over, so the bits of its column (and of its row), the
    # last one for the last fold, tell which half lay below. Each fold lays on top of what lies
    # below the mirror image of the topmost leaf: its neighbour across or down, as the fold goes.
    upwards = panels[::-1]
    column, row = upwards[0]
    text = ""
    for number in reversed(range(len(panels).bit_length() - 1)):
        height = 1 << number
        if upwards[height][0] != upwards[height - 1][0]:
            text = ("L" if column & 1 else "R") + text
            column = column >> 1
        else:
            text = ("T" if row & 1 else "B") + text
            row = row >> 1
    return text


def foldings(across, down):
    """All foldings with so many letters L and R together, and T and B together, by the alphabet."""
    if not 1 <= across + down <= MOST_FOLDS:
        return ()
    return tuple(_texts(across, down))


def _texts(across, down):
    if across < 0 or down < 0:
        return []
    if across == 0 and down == 0:
        return [""]
    found = []
    for letter in "BLRT":
        rest = _texts(across - 1, down) if letter in "LR" else _texts(across, down - 1)
        found.extend([letter + text for text in rest])
    return found
