"""What is taken out of a pile and put into it to make it right."""

from gathersheets.figures import are_integers


def mending(pile, sheets):
    """The first pair (taken, put) with the fewest sheets in all."""
    lengths = _row_lengths(pile, sheets)
    left = max(lengths, default=0)
    taken = []
    stays = [-1]
    for place, sheet in enumerate(pile):
        # A place is taken out if a row that is long enough can still be had without it.
        behind = [length for other, length in zip(pile[place + 1:], lengths[place + 1:]) if other > stays[-1]]
        if max(behind, default=0) >= left:
            taken.append(place)
        else:
            stays.append(sheet)
            left -= 1
    return tuple(taken), tuple([sheet for sheet in range(sheets) if sheet not in stays])


def _row_lengths(pile, sheets):
    """For each place the length of a longest rising row of the book's own sheets that begins there."""
    lengths = [0] * len(pile)
    for place in reversed(range(len(pile))):
        if 0 <= pile[place] < sheets:
            # Places ahead of this one, and sheets that are not the book's, have the length 0.
            behind = [length for other, length in zip(pile, lengths) if other > pile[place]]
            lengths[place] = 1 + max(behind, default=0)
    return lengths


def is_mending(pile, sheets, pair):
    """Whether a pair is a right mending of a pile, whatever it is."""
    if not isinstance(pair, tuple) or len(pair) != 2:
        return False
    taken, put = pair
    if not _is_ascending(taken) or not _is_ascending(put):
        return False
    if not all([0 <= place < len(pile) for place in taken]):
        return False
    stays = [sheet for place, sheet in enumerate(pile) if place not in taken]
    return _rises(stays) and sorted(stays + list(put)) == list(range(sheets))


def _is_ascending(thing):
    return are_integers(thing) and _rises(thing)


def _rises(numbers):
    return all([lower < upper for lower, upper in zip(numbers, numbers[1:])])
