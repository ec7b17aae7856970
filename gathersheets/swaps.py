"""How a pile is put right by swaps of two sheets."""

from gathersheets.errors import BadArgument
from gathersheets.figures import are_integers

MOST_IN_PILE = 24


def fewest_swaps(pile):
    """The least number of swaps that put a pile right."""
    return len(swap_plan(pile))


def swap_plan(pile):
    """The swaps that put right the least wrong place, until there is none."""
    _refuse_pile(pile)
    now = pile
    plan = []
    for place in range(len(pile)):
        if now[place] != place:
            swap = (place, now.index(place))
            now = _swapped(now, swap)
            plan.append(swap)
    return tuple(plan)


def is_swap_plan(pile, plan):
    """Whether a plan puts a pile right, whatever it is."""
    _refuse_pile(pile)
    if not isinstance(plan, tuple) or not all([_is_swap(swap, len(pile)) for swap in plan]):
        return False
    now = pile
    for swap in plan:
        now = _swapped(now, swap)
    return now == _right_pile(len(pile))


def _refuse_pile(pile):
    if not are_integers(pile) or not 1 <= len(pile) <= MOST_IN_PILE:
        raise BadArgument("pile")
    if tuple(sorted(pile)) != _right_pile(len(pile)):
        raise BadArgument("pile")


def _right_pile(sheets):
    return tuple(range(sheets))


def _is_swap(thing, places):
    if not are_integers(thing) or len(thing) != 2:
        return False
    return 0 <= thing[0] < thing[1] < places


def _swapped(pile, swap):
    first, second = swap
    sheets = list(pile)
    sheets[first] = pile[second]
    sheets[second] = pile[first]
    return tuple(sheets)
