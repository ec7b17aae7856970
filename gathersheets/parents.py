"""How many sheets parent sheets yield, and which parent is the cheapest one."""

from gathersheets.figures import rounded_up


def straight_yield(parent, sheet):
    """How many sheets are had by straight cuts across the whole parent, all of them laid one way."""
    width, height = sheet
    if min(sheet) < 1:
        return 0
    return max((parent[0] // width) * (parent[1] // height), (parent[0] // height) * (parent[1] // width))


def cut_yield(parent, sheet):
    """The greatest number of sheets that are had by cutting rectangles in two again and again."""
    width, height = parent
    sheets = (sheet, sheet[::-1])
    # The yields of all lesser rectangles, by width and height; none of them is 0 wide or high.
    yields = [[0] * (height + 1) for _ in range(width + 1)]
    for wide in range(1, width + 1):
        for high in range(1, height + 1):
            whole = 1 if (wide, high) in sheets else 0
            yields[wide][high] = max(whole, _best_cut(yields, wide, high))
    return yields[width][height]


def _best_cut(yields, wide, high):
    """The greatest yield of a rectangle that is cut in two."""
    # A cut beyond the middle parts it like one ahead of the middle.
    upright = [yields[cut][high] + yields[wide - cut][high] for cut in range(1, wide // 2 + 1)]
    level = [yields[wide][cut] + yields[wide][high - cut] for cut in range(1, high // 2 + 1)]
    return max(upright + level, default=0)


def best_parent(parents, prices, sheet, many):
    """The pair (number of the parent, cost) of the cheapest parent; None if none yields any."""
    costs = []
    for number, parent in enumerate(parents):
        sheets = straight_yield(parent, sheet)
        if sheets > 0:
            costs.append((prices[number] * rounded_up(many, sheets), number))
    if len(costs) == 0:
        return None
    cost, number = min(costs)
    return number, cost
