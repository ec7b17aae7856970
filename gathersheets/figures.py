"""What several parts do with numbers: dividing them and rounding up."""


def rounded_up(many, size):
    """How many of a size hold so many."""
    return (many + size - 1) // size
