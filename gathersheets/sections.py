"""Sections into which a book is parted, and how many leaves one can have."""

from gathersheets.figures import rounded_up


def fewest_sections(leaves, most):
    """The leaves of as few sections as possible, as even as possible, the greater ones first."""
    # Sections are made of pairs of leaves that hang together in the fold.
    pairs = rounded_up(leaves, 2)
    sections = rounded_up(pairs, max(1, most // 2))
    if sections == 0:
        return ()
    least, greater = divmod(pairs, sections)
    return (2 * least + 2,) * greater + (2 * least,) * (sections - greater)


def most_leaves(creep, thickness):
    """How many leaves a section can have; None if there is no greatest number, as with a thickness of 0."""
    if thickness == 0:
        return None
    return 2 * (creep // thickness + 1)
