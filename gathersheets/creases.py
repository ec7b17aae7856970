"""Where creases lie, whether they are valleys or mountains, and which foldings make them."""

from gathersheets.folding import is_folding


def creases(folding):
    """The creases of a folding: (across, down)."""
    told = (("",), ())
    for letter in reversed(folding):
        told = _unfolded(letter, told)
    return told


def _unfolded(letter, told):
    """The creases of a sheet that a fold brings to a half with these creases."""
    # The half that is turned over lies on the other one with its back up: later folds crease
    # both on the same lines, so it has mirrored places, and valleys for mountains.
    across, down = told
    if letter == "L":
        return _joined(_mirrored(across), across, "V"), _joined(_mirrored(down), down, "")
    if letter == "R":
        return _joined(across, _mirrored(across), "V"), _joined(down, _mirrored(down), "")
    valleys = ("V" * (len(across[0]) + 1),)
    if letter == "T":
        return _upended(across) + across, _upended(down) + valleys + down
    return across + _upended(across), down + valleys + _upended(down)


def _joined(lefts, rights, between):
    return tuple([left + between + right for left, right in zip(lefts, rights)])


def _mirrored(rows):
    return tuple([_exchanged(row[::-1]) for row in rows])


def _upended(rows):
    return tuple([_exchanged(row) for row in reversed(rows)])


def _exchanged(row):
    return row.translate(str.maketrans("VM", "MV"))


def alike_foldings(folding):
    """All foldings with the creases of this one, by the alphabet."""
    across, down = creases(folding)
    return find_by_creases(across, down)


def find_by_creases(across, down):
    """All foldings with these creases, by the alphabet; () if there are none."""
    for rows in (across, down):
        if not isinstance(rows, tuple) or not all([isinstance(row, str) for row in rows]):
            return ()
    return tuple([text for text in _texts(across, down) if is_folding(text)])


def _texts(across, down):
    """All texts of letters that fold a sheet with these creases to one stack."""
    if across == ("",) and down == ():
        return [""]
    found = []
    for letter in "BLRT":
        rest = _lower_half(letter, across, down)
        if rest is not None and _unfolded(letter, rest) == (across, down):
            found.extend([letter + text for text in _texts(rest[0], rest[1])])
    return found


def _lower_half(letter, across, down):
    """The creases of the half that a fold leaves as it lies; None if there are no two halves."""
    rows = len(across)
    columns = len(across[0]) + 1 if rows > 0 else 0
    half = columns // 2 if letter in "LR" else rows // 2
    if half == 0:
        return None
    if letter == "L":
        return tuple([row[half:] for row in across]), tuple([row[half:] for row in down])
    if letter == "R":
        return tuple([row[:half - 1] for row in across]), tuple([row[:half] for row in down])
    if letter == "T":
        return across[half:], down[half:]
    return across[:half], down[:half - 1]
