"""The piles that look right by their marks, and the marks that tell the right one apart."""

from math import lcm

from gathersheets.collation import marks_of, misplaced


def look_number(sheets, steps):
    """How many piles of a book's own sheets look right."""
    return _number_of(_fitting(sheets, steps))


def looks(sheets, steps, most):
    """The first ones of the piles that look right, at most so many."""
    fitting = _fitting(sheets, steps)
    return tuple([_look_at(fitting, number) for number in range(min(most, _number_of(fitting)))])


def _fitting(sheets, steps):
    """For each place the sheets whose mark is at its step, ascending."""
    marks = marks_of(tuple(range(sheets)), steps)
    return [[sheet for sheet in range(sheets) if marks[sheet] == mark] for mark in marks]


def _number_of(fitting):
    number = 1
    for choices in fitting:
        number = number * len(choices)
    return number


def _look_at(fitting, number):
    """The look that has so many others ahead of it."""
    # Looks are counted like numbers: the last place changes with each one.
    backwards = []
    for choices in reversed(fitting):
        number, choice = divmod(number, len(choices))
        backwards.append(choices[choice])
    return tuple(backwards[::-1])


def hidden_pairs(sheets, steps):
    """The pairs of sheets that can change places without being seen, ordered."""
    fitting = _fitting(sheets, steps)
    return tuple([(sheet, other) for sheet in range(sheets) for other in fitting[sheet] if sheet < other])


def looks_right(pile, sheets, rows):
    """Whether a pile looks right by all of some rows of marks."""
    return all([misplaced(pile, sheets, steps) is None for steps in rows])


def pair_of_rows(sheets, most):
    """The two numbers of steps with the least sum by which the right pile alone looks right, or None."""
    enough = []
    for first in range(1, most + 1):
        for second in range(first, most + 1):
            if lcm(first, second) >= sheets:
                enough.append((first + second, first, second))
    return min(enough)[1:] if len(enough) > 0 else None
