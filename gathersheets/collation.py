"""The marks on the backs of folded sheets, and what is wrong in a pile."""


def marks_of(pile, steps):
    """For each sheet of a pile the step of its mark; None where there are no steps."""
    return tuple([sheet % steps if steps > 0 else None for sheet in pile])


def misplaced(pile, sheets, steps):
    """The first place at which a pile does not look right, or None."""
    right = marks_of(tuple(range(sheets)), steps)
    marks = marks_of(pile, steps)
    for place, (mark, other) in enumerate(zip(marks, right)):
        if mark != other:
            return place
    # Behind the end of the shorter one a sheet lies there that should not, or lacks.
    return None if len(marks) == len(right) else min(len(marks), len(right))


def faults(pile, sheets):
    """The tuples (missing, doubled, foreign) of a pile for a book of so many sheets."""
    own = range(sheets)
    missing = [sheet for sheet in own if sheet not in pile]
    doubled = [sheet for sheet in own if pile.count(sheet) > 1]
    foreign = sorted({sheet for sheet in pile if not 0 <= sheet < sheets})
    return tuple(missing), tuple(doubled), tuple(foreign)
