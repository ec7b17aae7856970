import random
import unittest

from gathersheets.errors import BadDeed
from gathersheets.jobs import Job
from tests.samplejobs import Hand, drawn_deed, drawn_job, led, told_by
from tests.samples import plain

ALL_KINDS = [("start", 0, 9), ("front", 0, 8, 1), ("back", 0, 6, 1), ("fold", 0, 4, 1), ("gather", 2), ("bind", 2, 1)]


class Deeds(unittest.TestCase):
    def test_the_example(self):
        job = Job(1, 2)
        self.assertIsNone(job.do(("start", 0, 3)))
        self.assertIsNone(job.do(("front", 0, 3, 1)))
        self.assertIsNone(job.do(("back", 0, 2, 0)))
        self.assertEqual((job.counts(), job.shortfall()), (((0, 0, 2, 0, 1),), (0,)))

    def test_a_new_job(self):
        self.assertEqual(told_by(Job(3, 7)), {
            "counts": ((0, 0, 0, 0, 0),) * 3, "copies": (0, 0, 0), "gatherable": 0, "shortfall": (7, 7, 7),
            "waste": (0, 0, 0), "journal": "", "wanted": 7})

    def test_each_kind(self):
        wanted = [((9, 0, 0, 0, 0), (0, 0, 0)), ((1, 7, 0, 0, 1), (0, 0, 0)), ((1, 1, 5, 0, 2), (0, 0, 0)),
                  ((1, 1, 1, 3, 3), (0, 0, 0)), ((1, 1, 1, 1, 3), (2, 0, 0)), ((1, 1, 1, 1, 3), (0, 1, 1))]
        job = Job(1, 5)
        for deed, (counts, copies) in zip(ALL_KINDS, wanted):
            job.do(deed)
            self.assertEqual((job.counts(), job.copies()), ((counts,), copies), deed)
        self.assertEqual((job.shortfall(), job.waste(), job.gatherable()), ((0,), (4,), 1))
        self.assertEqual(job.journal(), "start 0 9\nfront 0 8 1\nback 0 6 1\nfold 0 4 1\ngather 2\nbind 2 1\n")

    def test_a_deed_is_done_to_its_own_sheet_alone(self):
        job = led(3, 5, [("start", 0, 4), ("start", 1, 5), ("start", 2, 6), ("front", 1, 3, 1)])
        self.assertEqual(job.counts(), ((4, 0, 0, 0, 0), (2, 2, 0, 0, 1), (6, 0, 0, 0, 0)))

    def test_copies_are_gathered_of_all_sheets(self):
        deeds = [(word, sheet, 3) + bad for sheet in (0, 1) for word, bad in
                 (("start", ()), ("front", (0,)), ("back", (0,)))]
        job = led(2, 5, deeds + [("fold", 0, 3, 0), ("fold", 1, 2, 0)])
        self.assertEqual(job.gatherable(), 2)
        job.do(("gather", 2))
        self.assertEqual((job.counts(), job.copies()), (((0, 0, 0, 1, 0), (0, 0, 1, 0, 0)), (2, 0, 0)))
        self.assertEqual(job.gatherable(), 0)
        job.do(("bind", 1, 1))
        self.assertEqual((job.copies(), job.waste(), job.shortfall()), ((1, 0, 1), (1, 1), (3, 3)))

    def test_deeds_of_no_sheets(self):
        job = Job(1, 2)
        for deed in (("start", 0, 0), ("front", 0, 0, 0), ("back", 0, 0, 0), ("fold", 0, 0, 0), ("gather", 0),
                     ("bind", 0, 0)):
            self.assertIsNone(job.do(deed))
        self.assertEqual((job.counts(), job.copies(), job.journal().count("\n")), (((0,) * 5,), (0, 0, 0), 6))
        self.assertTrue(all([job.undo() for _ in range(6)]))
        self.assertFalse(job.undo())

    def test_all_sheets_spoiled(self):
        job = led(1, 3, [("start", 0, 3), ("front", 0, 3, 3)])
        self.assertEqual((job.counts(), job.shortfall(), job.waste()), (((0, 0, 0, 0, 3),), (3,), (3,)))
        job = led(1, 1, [("start", 0, 1), ("front", 0, 1, 0), ("back", 0, 1, 0), ("fold", 0, 1, 0), ("gather", 1),
                         ("bind", 1, 1)])
        self.assertEqual((job.copies(), job.shortfall(), job.waste()), ((0, 0, 1), (1,), (1,)))

    def test_more_than_are_wanted(self):
        job = led(1, 3, [("start", 0, 10000)])
        self.assertEqual((job.counts(), job.shortfall()), (((10000, 0, 0, 0, 0),), (0,)))
        job.do(("start", 0, 10000))
        self.assertEqual(job.counts()[0][0], 20000)

    def test_drawn_deeds_kept_along_by_hand(self):
        drawn = random.Random(101)
        reasons = set()
        for number in range(60):
            sheets, copies = number % 8 + 1, drawn.randint(1, 12)
            job, hand = Job(sheets, copies), Hand(sheets, copies)
            for step in range(150):
                if drawn.random() < 0.1:
                    self.assertIs(job.undo(), hand.undo())
                else:
                    deed = drawn_deed(drawn, sheets, 5)
                    if step < sheets:
                        deed = ("start", step, 12)
                    reason = hand.reason(deed)
                    reasons.add(reason)
                    if reason is None:
                        self.assertIsNone(job.do(deed))
                        hand.do(deed)
                    else:
                        with self.assertRaises(BadDeed) as caught:
                            job.do(deed)
                        self.assertEqual(caught.exception.reason, reason, deed)
                told = told_by(job)
                self.assertEqual(told, hand.told())
                self.assertTrue(plain(tuple(told.values())))
        self.assertEqual(reasons, {None, "no sheet", "many", "bad", "not enough", "too many deeds"})

    def test_no_sheet_is_lost(self):
        drawn = random.Random(102)
        for number in range(100):
            sheets = number % 8 + 1
            job = drawn_job(drawn, sheets, 9, 60)
            live = []
            for line in job.journal().split("\n")[:-1]:
                if line == "undo":
                    live.pop()
                else:
                    live.append(line.split(" "))
            for sheet in range(sheets):
                started = sum(int(line[2]) for line in live if line[0] == "start" and int(line[1]) == sheet)
                self.assertEqual(sum(job.counts()[sheet]) + sum(job.copies()), started)
                self.assertEqual(job.waste()[sheet], job.counts()[sheet][4] + job.copies()[2])


class Refused(unittest.TestCase):
    def refused(self, job, deed, reason):
        ahead = told_by(job)
        with self.assertRaises(BadDeed) as caught:
            job.do(deed)
        self.assertIs(type(caught.exception), BadDeed)
        self.assertEqual(caught.exception.reason, reason, deed)
        self.assertEqual(told_by(job), ahead, deed)

    def full(self):
        """A job with some sheets of each kind, of which 60 deeds can be undone."""
        some = [("start", 0, 9), ("front", 0, 7, 0), ("back", 0, 5, 0), ("fold", 0, 3, 0), ("gather", 2)]
        return led(1, 5, some + [("start", 0, 0)] * 55)

    def test_no_sheet(self):
        for sheets in (1, 2, 8):
            job = led(sheets, 5, [("start", 0, 9)])
            for sheet in (-1, -sheets, sheets, sheets + 1, 99):
                self.refused(job, ("start", sheet, 1), "no sheet")
                for word in ("front", "back", "fold"):
                    self.refused(job, (word, sheet, 1, 0), "no sheet")

    def test_many(self):
        job = led(1, 5, [("start", 0, 10000)] * 2)
        for many in (-1, -7, 10001, 20000):
            for deed in (("start", 0, many), ("front", 0, many, 0), ("back", 0, many, 0), ("fold", 0, many, 0),
                         ("gather", many), ("bind", many, 0)):
                self.refused(job, deed, "many")
        self.assertIsNone(job.do(("front", 0, 10000, 10000)))

    def test_bad(self):
        job = led(1, 5, ALL_KINDS[:1] + [("front", 0, 9, 0), ("back", 0, 9, 0), ("fold", 0, 9, 0), ("gather", 9)])
        for deed in (("front", 0, 0, 1), ("back", 0, 0, -1), ("fold", 0, 0, 1), ("bind", 4, 5), ("bind", 4, -1),
                     ("bind", 0, 1)):
            self.refused(job, deed, "bad")
        self.assertIsNone(job.do(("bind", 4, 4)))

    def test_not_enough(self):
        job = led(2, 5, [("start", 0, 9), ("front", 0, 7, 1), ("back", 0, 5, 1), ("fold", 0, 3, 1)])
        for deed in (("front", 0, 3, 0), ("back", 0, 2, 0), ("fold", 0, 2, 0), ("gather", 1), ("bind", 1, 0),
                     ("front", 1, 1, 0)):
            self.refused(job, deed, "not enough")
        for deed in (("front", 0, 2, 0), ("back", 0, 3, 0), ("fold", 0, 4, 0)):
            self.assertIsNone(job.do(deed))

    def test_too_many_deeds(self):
        for deed in (("start", 0, 1), ("start", 0, 0), ("front", 0, 1, 1), ("back", 0, 1, 0), ("fold", 0, 1, 0),
                     ("gather", 1), ("bind", 1, 0), ("gather", 0)):
            self.refused(self.full(), deed, "too many deeds")

    def test_one_more_behind_an_undo(self):
        job = self.full()
        self.refused(job, ("start", 0, 1), "too many deeds")
        self.assertTrue(job.undo())
        self.assertIsNone(job.do(("start", 0, 1)))
        self.refused(job, ("start", 0, 1), "too many deeds")
        self.assertEqual([job.undo() for _ in range(61)], [True] * 60 + [False])
        self.assertEqual(job.counts(), ((0, 0, 0, 0, 0),))
        self.assertEqual(job.journal().count("\n"), 60 + 2 + 60)

    def test_several_reasons_at_once(self):
        job = self.full()
        for word in ("front", "back", "fold"):
            self.refused(job, (word, 1, 10001, 10002), "no sheet")
            self.refused(job, (word, -1, 9999, 0), "no sheet")
            self.refused(job, (word, 0, 10001, 10002), "many")
            self.refused(job, (word, 0, -1, 0), "many")
            self.refused(job, (word, 0, 9999, 10000), "bad")
            self.refused(job, (word, 0, 9999, -1), "bad")
            self.refused(job, (word, 0, 9999, 9999), "not enough")
            self.refused(job, (word, 0, 1, 0), "too many deeds")
        self.refused(job, ("start", 1, -1), "no sheet")
        self.refused(job, ("start", 1, 1), "no sheet")
        self.refused(job, ("start", 0, 10001), "many")
        self.refused(job, ("gather", 10001), "many")
        self.refused(job, ("gather", 2), "not enough")
        self.refused(job, ("bind", 10001, 10002), "many")
        self.refused(job, ("bind", 3, 4), "bad")
        self.refused(job, ("bind", 3, 3), "not enough")
        self.refused(job, ("bind", 2, 3), "bad")

    def test_a_refused_deed_leaves_nothing_to_undo(self):
        job = led(1, 5, [("start", 0, 2)])
        self.refused(job, ("front", 0, 3, 0), "not enough")
        self.assertTrue(job.undo())
        self.assertFalse(job.undo())
        self.assertEqual(job.journal(), "start 0 2\nundo\n")


class Undo(unittest.TestCase):
    def test_nothing_to_undo(self):
        job = Job(2, 3)
        self.assertIs(job.undo(), False)
        self.assertEqual(told_by(job), told_by(Job(2, 3)))

    def test_the_last_deed_that_was_not_undone(self):
        job = led(1, 3, [("start", 0, 1), ("start", 0, 2), "undo", ("start", 0, 4)])
        self.assertEqual(job.counts()[0][0], 5)
        self.assertIs(job.undo(), True)
        self.assertEqual(job.counts()[0][0], 1)
        self.assertIs(job.undo(), True)
        self.assertEqual(job.counts()[0][0], 0)
        self.assertIs(job.undo(), False)
        self.assertEqual(job.journal(), "start 0 1\nstart 0 2\nundo\nstart 0 4\nundo\nundo\n")

    def test_each_kind_is_taken_back(self):
        job = Job(1, 5)
        past = []
        for deed in ALL_KINDS:
            past.append((job.counts(), job.copies()))
            job.do(deed)
        for told in reversed(past):
            self.assertTrue(job.undo())
            self.assertEqual((job.counts(), job.copies()), told)


class Branch(unittest.TestCase):
    def test_as_the_job_is(self):
        drawn = random.Random(103)
        for number in range(40):
            job = drawn_job(drawn, number % 8 + 1, drawn.randint(1, 9), 40)
            other = job.branch()
            self.assertIsNot(other, job)
            self.assertIsInstance(other, Job)
            self.assertEqual(told_by(other), told_by(job))
            while job.undo():
                self.assertTrue(other.undo())
                self.assertEqual(told_by(other), told_by(job))
            self.assertFalse(other.undo())

    def test_undoing_the_branch_changes_nothing_of_the_job(self):
        job = led(1, 5, ALL_KINDS[:4])
        ahead = told_by(job)
        other = job.branch()
        while other.undo():
            self.assertEqual(told_by(job), ahead)
        self.assertEqual(other.counts(), ((0,) * 5,))
        other.do(("start", 0, 77))
        self.assertEqual(told_by(job), ahead)
        for deed in ALL_KINDS[4:]:
            job.do(deed)
        self.assertEqual(job.copies(), (0, 1, 1))
        self.assertEqual([job.undo() for _ in range(7)], [True] * 6 + [False])

    def test_going_on_with_the_job_changes_nothing_of_the_branch(self):
        job = led(2, 5, [("start", 0, 3), ("start", 1, 3)])
        other = job.branch()
        ahead = told_by(other)
        job.do(("front", 0, 3, 1))
        job.undo()
        job.undo()
        self.assertEqual(told_by(other), ahead)
        self.assertEqual([other.undo() for _ in range(3)], [True, True, False])
        self.assertEqual(job.counts(), ((3, 0, 0, 0, 0), (0, 0, 0, 0, 0)))

    def test_the_branch_of_a_job_that_is_full(self):
        job = led(1, 5, [("start", 0, 1)] * 60)
        other = job.branch()
        with self.assertRaises(BadDeed):
            other.do(("start", 0, 1))
        self.assertTrue(other.undo())
        self.assertIsNone(other.do(("start", 0, 1)))
        with self.assertRaises(BadDeed):
            job.do(("start", 0, 1))


class Beyond(unittest.TestCase):
    def test_no_error_somewhat_beyond(self):
        job = led(9, 6000, [("start", 8, 10000)])
        self.assertEqual((len(job.counts()), job.wanted(), job.shortfall()), (9, 6000, (6000,) * 8 + (0,)))
        self.assertEqual((Job(0, 3).gatherable(), Job(0, 3).counts(), Job(1, 0).shortfall()), (0, (), (0,)))
