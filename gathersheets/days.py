"""The days on which copies of a book are printed, folded and bound."""


def course(sheets, copies, works):
    """What each of the four works did on each day; None if they never come to an end."""
    if copies > 0 and (sheets < 1 or min(works) < 1):
        return None
    # As each work takes the sheets by turns, they come to the next one by turns, too: the one whose
    # turn it is lies there if any does. So it is enough to count all sheets together; the last one
    # is folded once in each round, and never more often than another one.
    done = (0, 0, 0, 0)
    days = []
    while done[3] < copies:
        printed, backed, folded, bound = done
        there = (sheets * copies - printed, printed - backed, backed - folded, folded // sheets - bound)
        day = tuple([min(many, work) for many, work in zip(there, works)])
        done = tuple([before + now for before, now in zip(done, day)])
        days.append(day)
    return tuple(days)


def length(sheets, copies, works):
    """How many days it takes until the last copy is bound; None if it never is."""
    days = course(sheets, copies, works)
    return None if days is None else len(days)
