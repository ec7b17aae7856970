"""Foldings, and things that are none of what the program asks for, for several tests."""

from itertools import product

ALL_FOLDINGS = ["".join(letters) for many in range(1, 6) for letters in product("BLRT", repeat=many)]
SOME_FOLDINGS = [text for text in ALL_FOLDINGS if len(text) < 4] + ["TLTL", "LLRB", "BRTT", "LTLTL", "TTTTT", "RBLLT"]
BEYOND = ["LLLLLL", "TLTLTL", "BRBRBRB"]

OTHER_THINGS = [
    None, 5, -1, 2.5, "", "TL", b"TL", (), [], {}, set(), (None,), ((),), [[]], ((), ()), (((),), ((),)),
    ("L", "T"), ((1,),), (("a", "b"), ("c", "d")), {"L": 1}, object(), len, ((0, 1), (0, 0), (1, 0)),
    ((0, [1]), (1, 0)), ([0, 0], [1, 0]), ((0, 0, 0), (1, 0, 0)), ((None, None), (None, None)), range(4),
    (((2, 3),), None), (None, ((1, 4),)), [((2, 3),), ((1, 4),)], ([(2, 3)], [(1, 4)]), (([2, 3],), ([1, 4],)),
    ((("2", "3"),), (("1", "4"),)), (((2, 3),), ((1, 4),), ((1, 4),)), (((2, [3]),), ((1, {}),)),
]


def plain(value):
    """Whether a value is made of tuples, texts, integers, True, False and None alone."""
    if type(value) is tuple:
        return all(plain(part) for part in value)
    return value is None or type(value) in (int, str, bool)


def neighbours(columns, rows):
    """All pairs of panels side by side, or one above the other."""
    across = [((c, r), (c + 1, r)) for r in range(rows) for c in range(columns - 1)]
    down = [((c, r), (c, r + 1)) for r in range(rows - 1) for c in range(columns)]
    return across, down


def where(state):
    """For each panel of a state: (column, row, face, head) of its stack and of itself."""
    return {leaf[:2]: (column, row, leaf[2], leaf[3])
            for row, stacks in enumerate(state) for column, stack in enumerate(stacks) for leaf in stack}
