"""Where chapters begin, the pages that stay blank between them, and their best order."""


def beginnings(chapters, order, rule):
    """The first pages of the chapters, in their order."""
    page = 1
    told = []
    for chapter in order:
        if rule == "odd" and page % 2 == 0:
            page += 1
        told.append(page)
        page += chapters[chapter]
    return tuple(told)


def length_of(chapters, order, rule):
    """The last page of the last chapter; 0 if there is none."""
    if len(order) == 0:
        return 0
    return beginnings(chapters, order, rule)[-1] + chapters[order[-1]] - 1


def blanks_within(chapters, order, rule):
    """How many pages are passed over."""
    return length_of(chapters, order, rule) - sum([chapters[chapter] for chapter in order])


def best_order(chapters):
    """The first order with the fewest blanks within, by the rule "odd"."""
    # Each odd chapter but the last one of an order leaves a blank: so an odd one comes last, and
    # the one with the greatest number, as then the numbers ahead of it rise as long as they can.
    odd = [chapter for chapter, pages in enumerate(chapters) if pages % 2 == 1]
    last = odd[-1:]
    return tuple([chapter for chapter in range(len(chapters)) if chapter not in last] + last)
