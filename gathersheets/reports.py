"""Reports of jobs and of books."""

from gathersheets.books import blank_count, position_count
from gathersheets.creep import widest_creep
from gathersheets.forms import best_shift, pages_on
from gathersheets.spreads import natural_firsts


def report(job):
    """How far a job has come: a line for each sheet, one for the copies, and what can be done next."""
    lines = []
    for sheet, (counts, short) in enumerate(zip(job.counts(), job.shortfall())):
        unprinted, front, both, folded, spoiled = counts
        printed = f"{unprinted} unprinted, {front} front, {both} both"
        lines.append(f"sheet {sheet}: {printed}, {folded} folded, {spoiled} spoiled, {short} short")
    gathered, bound, lost = job.copies()
    wanted = job.wanted()
    lines.append(f"copies: {gathered} gathered, {bound} bound, {lost} lost, {wanted} wanted")
    lines.append("done" if bound >= wanted else f"gather {job.gatherable()}")
    return "\n".join(lines)


def book_report(book, inks, thickness):
    """What a book is, what is printed on its sheets, its natural spreads, its plates and its creep."""
    foldings, binding, pages = book
    lines = [f"book {binding}: {pages} pages, {position_count(book)} positions, {blank_count(book)} blank"]
    for sheet, folding in enumerate(foldings):
        front = _listed(pages_on(book, sheet, "front"))
        back = _listed(pages_on(book, sheet, "back"))
        lines.append(f"sheet {sheet}: {folding}, front {front}, back {back}")
    lines.append(f"natural {_listed(natural_firsts(book))}")
    shift, plates = best_shift(book, inks)
    lines.append(f"shift {shift}, plates {plates}")
    lines.append(f"creep {widest_creep(book, thickness)}")
    return "\n".join(lines)


def _listed(numbers):
    """Numbers parted by spaces; a word where there are none."""
    return " ".join([str(number) for number in numbers]) if len(numbers) > 0 else "none"
