"""The steps of a folding in words, and its map."""

from gathersheets.folding import fold, is_folding, sheet_size

STEPS = {
    "L": "fold the left half over",
    "R": "fold the right half over",
    "T": "fold the top half over",
    "B": "fold the bottom half over",
}


def dummy(folding):
    """A line for each fold: what is folded, and what lies there then."""
    columns, rows = sheet_size(folding)
    lines = []
    for number, letter in enumerate(folding):
        if letter in "LR":
            columns = columns // 2
        else:
            rows = rows // 2
        leaves = 2 << number
        lines.append(f"{STEPS[letter]} ({columns} by {rows}, {leaves} leaves)")
    return "\n".join(lines)


def read_dummy(text):
    """The folding whose dummy this text is, or None."""
    if not isinstance(text, str):
        return None
    folding = "".join([_letter(line) for line in text.split("\n")])
    return folding if is_folding(folding) and dummy(folding) == text else None


def _letter(line):
    for letter, words in STEPS.items():
        if line.startswith(words):
            return letter
    return ""


def map_of(folding):
    """For each panel the number of its leaf, from 1 on; below 0 if its back lies up."""
    columns, rows = sheet_size(folding)
    grid = [[0] * columns for _ in range(rows)]
    for number, (column, row, face, _) in enumerate(fold(folding)):
        grid[row][column] = number + 1 if face == "front" else -number - 1
    return tuple([tuple(row) for row in grid])
