"""The ways to put things into places that fill up, for presses and for shelves."""


def fillings(sizes, places, room):
    """The ways to put things of these sizes into places: pairs (numbers, loads), ordered.

    The numbers are the places of the things: each is at most one greater than all ahead of it.
    The loads are what the places in use hold. Of ways with the same loads, in whatever order, the
    first one alone is told.
    """
    ways = [((), ())]
    for size in sizes:
        # Ways with the same loads can be gone on with alike, so that the first one of them stays
        # ahead of the others.
        longer = {}
        for numbers, loads in ways:
            for place in range(min(len(loads) + 1, places)):
                filled = _filled(loads, place, size)
                if filled[place] <= room:
                    longer.setdefault(tuple(sorted(filled)), (numbers + (place,), filled))
        ways = list(longer.values())
    return ways


def _filled(loads, place, size):
    """The loads with one more thing at a place, which may be the first one that was not in use."""
    if place == len(loads):
        return loads + (size,)
    return loads[:place] + (loads[place] + size,) + loads[place + 1:]
