import random
import unittest

from gathersheets.errors import BadJournal
from gathersheets.jobs import Job
from gathersheets.journal import replay
from tests.samplejobs import drawn_job, led, told_by

TEXT = "start 0 9\nfront 0 8 1\nback 0 6 1\nfold 0 4 1\ngather 2\nbind 2 1\nundo\n"


def undone(job):
    """All that a job tells behind each undo."""
    told = [told_by(job)]
    while job.undo():
        told.append(told_by(job))
    return told


class Replay(unittest.TestCase):
    def test_some(self):
        job = replay(1, 5, TEXT)
        self.assertIsInstance(job, Job)
        self.assertEqual((job.counts(), job.copies(), job.wanted()), (((1, 1, 1, 1, 3),), (2, 0, 0), 5))
        self.assertEqual(job.journal(), TEXT)

    def test_an_empty_journal(self):
        self.assertEqual(told_by(replay(3, 7, "")), told_by(Job(3, 7)))

    def test_without_the_last_newline(self):
        self.assertEqual(replay(1, 5, "start 0 9\nfront 0 8 1").journal(), "start 0 9\n")
        self.assertEqual(replay(1, 5, "start 0 9").journal(), "")
        self.assertEqual(replay(1, 5, "start 0 9\nnothing like it").journal(), "start 0 9\n")
        self.assertEqual(replay(1, 5, "undo").journal(), "")

    def test_drawn_jobs_are_made_again(self):
        drawn = random.Random(111)
        for number in range(60):
            sheets, copies = number % 8 + 1, drawn.randint(1, 9)
            job = drawn_job(drawn, sheets, copies, 70)
            again = replay(sheets, copies, job.journal())
            self.assertEqual(undone(again), undone(job))

    def test_cut_at_each_character(self):
        drawn = random.Random(112)
        for number in range(12):
            sheets, copies = number % 8 + 1, drawn.randint(1, 9)
            text = drawn_job(drawn, sheets, copies, 25).journal()
            for cut in range(len(text) + 1):
                whole = text[:text[:cut].rfind("\n") + 1]
                again = replay(sheets, copies, text[:cut])
                self.assertEqual(again.journal(), whole)
                deeds = [("undo" if line == "undo" else
                          tuple(int(part) if part.isdigit() else part for part in line.split(" ")))
                         for line in whole.split("\n")[:-1]]
                self.assertEqual(told_by(again), told_by(led(sheets, copies, deeds)))

    def test_the_job_goes_on(self):
        job = replay(1, 5, TEXT)
        job.do(("bind", 2, 0))
        self.assertEqual(job.journal(), TEXT + "bind 2 0\n")
        self.assertEqual(job.copies(), (0, 2, 0))
        self.assertEqual([job.undo() for _ in range(7)], [True] * 6 + [False])


class Refused(unittest.TestCase):
    def refused(self, text, place, sheets=1):
        with self.assertRaises(BadJournal) as caught:
            replay(sheets, 5, text)
        self.assertIs(type(caught.exception), BadJournal)
        self.assertEqual(caught.exception.place, place, text)

    def test_lines_in_another_writing(self):
        for line in ("", " ", "start", "start ", "start 0", "start 0 ", "start 0 3 ", " start 0 3", "start  0 3",
                     "start 0  3", "start 0 3 0", "Start 0 3", "START 0 3", "start\t0 3", "start 0,3", "start 0 3\r",
                     "start 0 three", "start 0 3.0", "start 0 +3", "start 0 -3", "start -0 3", "start 0 1_0",
                     "start 0 \u0663", "start 0 \u00b2", "('start', 0, 3)", "start 0 None", "start03", "0 start 3",
                     "front 0 1", "front 0 1 0 0", "back 0 1", "fold 0 1", "gather", "gather 0 0", "bind 0", "bind 0 0 0",
                     "undo 1", "undo ", " undo", "Undo", "undo\r", "undo 0"):
            self.refused(line + "\n", 1)
            self.refused("start 0 9\n" + line + "\n", 2)
            self.refused("start 0 9\n" + line + "\nstart 0 9\n" + line + "\n", 2)

    def test_words_that_are_none(self):
        for line in ("stop 0 3", "print 0 3 0", "redo", "sheet", "none 0 0", "0 0 0", "starts 0 3", "many 3"):
            self.refused(line + "\n", 1)

    def test_numbers_with_a_zero_ahead(self):
        for line in ("start 0 03", "start 00 3", "front 0 01 0", "front 0 1 00", "gather 00", "bind 00 0", "bind 0 00"):
            self.refused("start 0 9\n" + line + "\n", 2)

    def test_deeds_that_are_refused(self):
        for line in ("start 1 3", "start 0 10001", "front 0 9 10", "front 0 10 0", "back 0 1 0", "gather 1", "bind 1 0",
                     "start 0 " + "9" * 5000, "start " + "9" * 5000 + " 1"):
            self.refused("start 0 9\n" + line + "\n", 2)
        self.refused("start 0 1\n" * 61, 61)
        self.refused("start 0 1\n" * 60 + "undo\n" + "start 0 1\n" * 2, 63)

    def test_an_undo_of_nothing(self):
        self.refused("undo\n", 1)
        self.refused("start 0 1\nundo\nundo\n", 3)
        self.refused("start 0 1\nundo\nundo\nnothing\n", 3)

    def test_the_first_wrong_line_is_told(self):
        self.refused("start 0 9\n\nundo\nundo\n", 2)
        self.refused("start 0 9\nfront 0 9 0\nfront 0 1 0\nfront\n", 3)
        self.refused("\n\n\n", 1)

    def test_a_wrong_line_without_its_newline_is_no_line(self):
        self.assertEqual(replay(1, 5, "start 0 9\nfront 0 10 0").journal(), "start 0 9\n")
        self.assertEqual(replay(1, 5, " ").journal(), "")

    def test_a_journal_for_fewer_sheets(self):
        self.assertEqual(replay(2, 5, "start 1 3\n").counts(), ((0,) * 5, (3, 0, 0, 0, 0)))
        self.refused("start 0 3\nstart 1 3\n", 2)

    def test_changed_journals_are_refused_or_written_back(self):
        drawn = random.Random(113)
        text = drawn_job(drawn, 2, 5, 30).journal()
        for _ in range(1500):
            at = drawn.randrange(len(text))
            put = drawn.choice(["", "", "0", "1", " ", "\n", "x", "undo\n"])
            changed = text[:at] + put + text[at + drawn.randint(0, 2):]
            try:
                job = replay(2, 5, changed)
            except BadJournal as refused:
                ahead = "".join(line + "\n" for line in changed.split("\n")[:refused.place - 1])
                self.assertEqual(replay(2, 5, ahead).journal(), ahead)
                continue
            self.assertEqual(job.journal(), changed[:changed.rfind("\n") + 1])
