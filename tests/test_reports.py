import random
import time
import unittest

from gathersheets.jobs import Job
from gathersheets.reports import book_report, report
from tests.samplebooks import book_list, printed_at
from tests.samplejobs import drawn_job, led

MADE = [("start", 0, 6), ("front", 0, 6, 1), ("back", 0, 5, 1), ("fold", 0, 4, 0), ("gather", 3), ("bind", 3, 1)]


def natural_by_seeing(seen, first):
    """Whether two positions lie side by side, as somebody sees them who holds both with their heads up."""
    one, other = seen[first], seen[first + 1]
    if one[:2] != other[:2] or one[3:] != other[3:]:
        return False
    # The back is seen turned over, so that its columns run the other way; head down, again the other way.
    turns = (one[1] == "back") + (one[4] == "down")
    return other[2] - one[2] == (1, -1, 1)[turns]


def lines_of_book(book, inks, thickness):
    """The lines of q2, made out of where each position is printed."""
    foldings, binding, pages = book
    seen = printed_at(book)
    positions = len(seen)
    lines = ["book " + binding + ": " + str(pages) + " pages, " + str(positions) + " positions, "
             + str(positions - pages) + " blank"]
    for sheet, folding in enumerate(foldings):
        sides = []
        for side in ("front", "back"):
            found = [str(k) for k in range(1, pages + 1) if seen[k][:2] == (sheet, side)]
            sides.append(side + " " + (" ".join(found) if found else "none"))
        lines.append("sheet " + str(sheet) + ": " + folding + ", " + ", ".join(sides))
    natural = [str(first) for first in range(2, positions, 2) if natural_by_seeing(seen, first)]
    lines.append("natural " + (" ".join(natural) if natural else "none"))
    counts = [sum(len({seen[page + shift][:2] for page in ink}) for ink in inks)
              for shift in range(positions - pages + 1)]
    lines.append("shift " + str(counts.index(min(counts))) + ", plates " + str(min(counts)))
    sizes = [positions // 2] if binding == "inset" else [2 ** len(folding) for folding in foldings]
    lines.append("creep " + str(thickness * (max(sizes) // 2 - 1)))
    return lines


class Jobs(unittest.TestCase):
    def test_the_example(self):
        self.assertEqual(report(Job(1, 2)), "sheet 0: 0 unprinted, 0 front, 0 both, 0 folded, 0 spoiled, 2 short\n"
                                            "copies: 0 gathered, 0 bound, 0 lost, 2 wanted\ngather 0")

    def test_each_number_in_its_place(self):
        job = led(2, 90, [("start", 0, 60), ("front", 0, 50, 1), ("back", 0, 44, 1), ("fold", 0, 40, 1),
                          ("start", 1, 70), ("front", 1, 63, 0), ("back", 1, 60, 0), ("fold", 1, 59, 0),
                          ("gather", 29), ("bind", 14, 3)])
        self.assertEqual(report(job).split("\n"), [
            "sheet 0: 10 unprinted, 5 front, 3 both, 10 folded, 3 spoiled, 36 short",
            "sheet 1: 7 unprinted, 3 front, 1 both, 30 folded, 0 spoiled, 23 short",
            "copies: 15 gathered, 11 bound, 3 lost, 90 wanted",
            "gather 10"])

    def test_what_can_be_gathered(self):
        self.assertEqual(report(led(1, 2, MADE[:4])).split("\n")[-1], "gather 4")
        self.assertEqual(report(led(1, 2, MADE[:5])).split("\n")[-1], "gather 1")
        self.assertEqual(report(led(2, 2, MADE[:4])).split("\n")[-1], "gather 0")

    def test_a_job_that_is_done(self):
        self.assertEqual(report(led(1, 2, MADE)).split("\n")[-2:], ["copies: 0 gathered, 2 bound, 1 lost, 2 wanted",
                                                                    "done"])
        self.assertEqual(report(led(1, 1, MADE)).split("\n")[-1], "done")
        self.assertEqual(report(led(1, 3, MADE)).split("\n")[-1], "gather 1")
        self.assertEqual(report(led(1, 2, MADE + ["undo"])).split("\n")[-1], "gather 1")

    def test_drawn_jobs_line_by_line(self):
        drawn = random.Random(151)
        for number in range(60):
            job = drawn_job(drawn, number % 8 + 1, drawn.randint(1, 3), 70)
            words = ("unprinted", "front", "both", "folded", "spoiled", "short")
            wanted = []
            for sheet, counts in enumerate(job.counts()):
                told = [f"{many} {word}" for many, word in zip(counts + (job.shortfall()[sheet],), words)]
                wanted.append(f"sheet {sheet}: " + ", ".join(told))
            copies = job.copies() + (job.wanted(),)
            told = [f"{many} {word}" for many, word in zip(copies, ("gathered", "bound", "lost", "wanted"))]
            wanted.append("copies: " + ", ".join(told))
            done = job.copies()[1] >= job.wanted()
            wanted.append("done" if done else "gather " + str(min(counts[3] for counts in job.counts())))
            self.assertEqual(report(job), "\n".join(wanted))

    def test_a_report_changes_nothing(self):
        job = led(1, 2, MADE)
        self.assertEqual(report(job), report(job))
        self.assertEqual(job.journal().count("\n"), 6)
        self.assertEqual(report(job.branch()), report(job))


class Books(unittest.TestCase):
    def test_some(self):
        self.assertEqual(book_report((("L", "TL"), "gathered", 10), ((1, 2),), 3).split("\n"), [
            "book gathered: 10 pages, 12 positions, 2 blank", "sheet 0: L, front 2 3, back 1 4",
            "sheet 1: TL, front 6 7 10, back 5 8 9", "natural 2 8", "shift 1, plates 1", "creep 3"])
        self.assertEqual(book_report((("LL", "BL"), "inset", 16), ((1,), (2, 3)), 5).split("\n")[-1], "creep 15")

    def test_a_side_with_no_page_and_no_inks(self):
        self.assertEqual(book_report((("L", "L"), "gathered", 1), (), 0).split("\n"), [
            "book gathered: 1 pages, 8 positions, 7 blank", "sheet 0: L, front none, back 1",
            "sheet 1: L, front none, back none", "natural 2 6", "shift 0, plates 0", "creep 0"])

    def test_no_natural_spread(self):
        self.assertEqual(book_report((("T",), "gathered", 4), (), 1).split("\n")[2], "natural none")

    def test_all_books_line_by_line(self):
        drawn = random.Random(152)
        found = set()
        for book in book_list():
            inks = tuple(tuple(sorted(drawn.sample(range(1, book[2] + 1), drawn.randint(0, min(6, book[2])))))
                         for _ in range(drawn.randint(0, 6)))
            thickness = drawn.randint(0, 9)
            told = book_report(book, inks, thickness)
            self.assertEqual(told.split("\n"), lines_of_book(book, inks, thickness), book)
            found.update(word for word in ("front none", "back none", "natural none") if word in told)
        self.assertEqual(found, {"front none", "back none", "natural none"})

    def test_the_greatest_book(self):
        for binding in ("gathered", "inset"):
            begun = time.monotonic()
            told = book_report((("LTLTL",) * 8, binding, 300), (tuple(range(1, 301)),) * 6, 4)
            self.assertLess(time.monotonic() - begun, 3)
            self.assertEqual(told.count("\n"), 11)
