"""The fewest and the cheapest sheets for a number of pages."""

from gathersheets.figures import rounded_up
from gathersheets.folding import MOST_FOLDS

LEAST_PAGES = 4


def standard(folds):
    """The standard folding with so many letters."""
    return ("TL" * folds)[folds:]


def fewest_sheets(pages, most):
    """Standard foldings of at most so many letters, with as few blanks, then as few sheets as possible."""
    # Each standard folding has twice the pages of the one ahead of it. So a sheet that leaves no
    # blanks is best as long as it can be, and none but the longest one is needed twice.
    left = _units(pages)
    found = []
    for folds in reversed(range(1, min(most, MOST_FOLDS) + 1)):
        sheets = left >> (folds - 1)
        found.extend([standard(folds)] * sheets)
        left = left - (sheets << (folds - 1))
    return tuple(found)


def _units(pages):
    """How many of the shortest standard foldings have pages enough."""
    return rounded_up(pages, LEAST_PAGES)


def cheapest_sheets(pages, costs):
    """The pair (foldings, cost) of the standard foldings that cost least together."""
    units = _units(pages)
    # With as many units more as the longest folding has, a sheet could be left out.
    choices = _cheapest_choices(units + (1 << (MOST_FOLDS - 1)), costs)
    ranked = []
    for number in range(units, len(choices)):
        cost, sheets, lengths = choices[number]
        ranked.append((cost, number, sheets, lengths))
    cost, _, _, lengths = min(ranked)
    return tuple([standard(-length) for length in lengths]), cost


def _cheapest_choices(most, costs):
    """For each number of units the least (cost, sheets, lengths); lengths below 0, so that longer ones are first."""
    best = [(costs[0] * units, units, (-1,) * units) for units in range(most + 1)]
    for folds in range(2, MOST_FOLDS + 1):
        size = 1 << (folds - 1)
        for units in range(size, most + 1):
            cost, sheets, lengths = best[units - size]
            best[units] = min(best[units], (cost + costs[folds - 1], sheets + 1, (-folds,) + lengths))
    return best
