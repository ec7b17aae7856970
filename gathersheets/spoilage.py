"""Which sheets stages spoil, and how many must enter them."""


def good_sheets(stages, sheets):
    """How many of so many sheets come out of the last stage."""
    for makeready, interval in stages:
        others = max(0, sheets - makeready)
        sheets = others - others // interval
    return sheets


def survivors(stages, sheets):
    """The numbers of those sheets that come out of the last stage, ascending."""
    left = list(range(sheets))
    for makeready, interval in stages:
        others = left[makeready:]
        left = [sheet for number, sheet in enumerate(others, start=1) if number % interval != 0]
    return tuple(left)


def required(stages, wanted):
    """The least number of sheets of which so many come out; None if an interval of 1 lets none by."""
    if wanted < 1:
        return 0
    sheets = wanted
    for makeready, interval in reversed(stages):
        if interval < 2:
            return None
        # The last one of the least number is a good one: so a sheet is spoiled behind each
        # interval - 1 of the good ones ahead of it, and none behind it.
        sheets = makeready + sheets + (sheets - 1) // (interval - 1)
    return sheets
