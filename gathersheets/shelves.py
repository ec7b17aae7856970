"""Bound copies on shelves."""

from gathersheets.errors import BadArgument
from gathersheets.filling import fillings


def fewest_shelves(thicknesses, copies, width):
    """The fewest shelves for the copies of some titles, and the first shelf of each title with these."""
    sizes = [thickness * many for thickness, many in zip(thicknesses, copies)]
    if any([size > width for size in sizes]):
        raise BadArgument("title")
    return min([(len(loads), numbers) for numbers, loads in fillings(sizes, len(sizes), width)])
