"""What a book costs, and how many folds make it cheapest."""

from gathersheets.books import MOST_SHEETS
from gathersheets.choosing import fewest_sheets
from gathersheets.folding import MOST_FOLDS
from gathersheets.forms import best_shift
from gathersheets.orders import order_list

REAM = 500


def quote(book, inks, copies, orders, prices):
    """The costs (paper, plates, folding, binding, total); None if no number of sheets is enough."""
    listed = order_list(orders, copies, REAM)
    if listed is None:
        return None
    needed, reams, _ = listed
    _, plates = best_shift(book, inks)
    folds = sum([len(folding) * sheets for folding, sheets in zip(book[0], needed)])
    counts = (reams, plates, folds, copies)
    costs = tuple([price * count for price, count in zip(prices, counts)])
    return costs + (sum(costs),)


def best_quote(pages, copies, stages, prices):
    """The pair (most folds, total) of the book of the fewest sheets that costs least; None if there is none."""
    inks = (tuple(range(1, pages + 1)),)
    totals = []
    for folds in range(1, MOST_FOLDS + 1):
        foldings = fewest_sheets(pages, folds)
        if len(foldings) <= MOST_SHEETS:
            book = (foldings, "gathered", pages)
            told = quote(book, inks, copies, (stages,) * len(foldings), prices)
            if told is not None:
                totals.append((told[-1], folds))
    if len(totals) == 0:
        return None
    total, folds = min(totals)
    return folds, total
