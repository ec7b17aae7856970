"""Forms that are printed on several presses, and when all are done."""

from gathersheets.figures import are_integers, rounded_up
from gathersheets.filling import fillings


def least_time(times, presses):
    """The least time in which all forms are done; None if no press prints them."""
    assignment = first_assignment(times, presses)
    return None if assignment is None else time_of(times, assignment)


def first_assignment(times, presses):
    """The first assignment with the least time; None if no press prints the forms."""
    ways = fillings(times, presses, sum(times))
    told = [(max(loads, default=0), numbers) for numbers, loads in ways]
    return min(told)[1] if len(told) > 0 else None


def time_of(times, assignment):
    """When an assignment is done."""
    return max([ends for _, _, ends in schedule(times, assignment)], default=0)


def bound(times, presses):
    """A time in which no assignment is done sooner; None if there are no presses."""
    if presses < 1:
        return None
    return max(max(times, default=0), rounded_up(sum(times), presses))


def is_assignment(times, presses, assignment):
    """Whether it is an assignment, whatever it is."""
    if not are_integers(assignment) or len(assignment) != len(times):
        return False
    new = 0
    for press in assignment:
        if not 0 <= press <= new or press >= presses:
            return False
        new = max(new, press + 1)
    return True


def schedule(times, assignment):
    """For each form its press, and when it begins and ends there."""
    told = []
    done = {}
    for time, press in zip(times, assignment):
        begins = done.get(press, 0)
        done[press] = begins + time
        told.append((press, begins, done[press]))
    return tuple(told)
