"""What must be ordered for copies of a book, and for how many copies paper is enough."""

from gathersheets.figures import rounded_up
from gathersheets.spoilage import required

MOST_COPIES = 5000


def order_list(orders, copies, ream):
    """What is required of each sheet, how many reams hold it, and what is left over of these.

    None if no number of sheets or of reams is enough.
    """
    needed = _needed_sheets(orders, copies)
    if None in needed or ream < 1:
        return None
    total = sum(needed)
    reams = rounded_up(total, ream)
    return needed, reams, reams * ream - total


def _needed_sheets(orders, copies):
    return tuple([required(stages, copies) for stages in orders])


def most_copies(orders, paper):
    """The greatest number of copies for which so many sheets in all are enough."""
    # More copies never require fewer sheets, so the greatest number is found by halving.
    enough = 0
    beyond = MOST_COPIES + 1
    while beyond - enough > 1:
        copies = (enough + beyond) // 2
        needed = _needed_sheets(orders, copies)
        if None not in needed and sum(needed) <= paper:
            enough = copies
        else:
            beyond = copies
    return enough
