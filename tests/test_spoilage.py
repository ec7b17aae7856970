import random
import time
import unittest

from gathersheets.spoilage import good_sheets, required, survivors
from tests.samples import plain


def one_by_one(stages, sheets):
    """The sheets that come out, each led through all stages by itself."""
    entered = [0] * len(stages)
    out = []
    for sheet in range(sheets):
        for k, (makeready, interval) in enumerate(stages):
            entered[k] += 1
            place = entered[k] - makeready
            if place <= 0 or place % interval == 0:
                break
        else:
            out.append(sheet)
    return tuple(out)


def drawn_stages(drawn, makeready=40, interval=30):
    return tuple((drawn.randint(0, makeready), drawn.randint(2, interval)) for _ in range(drawn.randint(0, 6)))


class Survivors(unittest.TestCase):
    def test_some(self):
        self.assertEqual(survivors(((2, 3), (0, 2)), 12), (2, 5, 8, 11))
        self.assertEqual(survivors(((0, 2),), 7), (0, 2, 4, 6))
        self.assertEqual(survivors(((3, 1000),), 5), (3, 4))
        self.assertEqual(survivors(((1, 3),), 7), (1, 2, 4, 5))

    def test_no_stages(self):
        self.assertEqual(survivors((), 3), (0, 1, 2))
        self.assertEqual(survivors((), 0), ())

    def test_a_makeready_greater_than_what_enters(self):
        for sheets in (0, 1, 9, 10):
            self.assertEqual(survivors(((10, 2),), sheets), ())
            self.assertEqual(good_sheets(((10, 2),), sheets), 0)
        self.assertEqual(survivors(((10, 2),), 11), (10,))
        self.assertEqual(survivors(((0, 2), (1000, 2), (0, 5)), 300), ())

    def test_drawn_stages_one_by_one(self):
        drawn = random.Random(111)
        for _ in range(400):
            stages, sheets = drawn_stages(drawn), drawn.randint(0, 300)
            told = survivors(stages, sheets)
            self.assertEqual(told, one_by_one(stages, sheets), (stages, sheets))
            self.assertEqual(good_sheets(stages, sheets), len(told))
            self.assertTrue(plain(told))


class Good(unittest.TestCase):
    def test_some(self):
        self.assertEqual(good_sheets(((10, 20),), 110), 95)
        self.assertEqual(good_sheets(((10, 20),), 109), 95)
        self.assertEqual(good_sheets(((10, 20),), 108), 94)
        self.assertEqual(good_sheets((), 100000), 100000)
        self.assertEqual(good_sheets(((0, 2),) * 6, 100000), 1563)

    def test_many_sheets_one_by_one(self):
        drawn = random.Random(112)
        for sheets in (100000, 99999, 54321):
            stages = drawn_stages(drawn, 1000, 1000)
            self.assertEqual(good_sheets(stages, sheets), len(one_by_one(stages, sheets)))

    def test_never_fewer_with_more(self):
        drawn = random.Random(113)
        for _ in range(30):
            stages = drawn_stages(drawn)
            counts = [good_sheets(stages, sheets) for sheets in range(600)]
            self.assertEqual(counts, sorted(counts))


class Required(unittest.TestCase):
    def test_some(self):
        self.assertEqual(required(((10, 20),), 95), 109)
        self.assertEqual(required(((10, 20),), 96), 111)
        self.assertEqual(required(((0, 2),), 3), 5)
        self.assertEqual(required(((7, 9),), 1), 8)
        self.assertEqual(required((), 10000), 10000)

    def test_nothing_wanted(self):
        for stages in ((), ((10, 20),), ((1000, 2),) * 6):
            self.assertEqual(required(stages, 0), 0)

    def test_an_interval_of_two(self):
        for wanted in range(1, 50):
            self.assertEqual(required(((0, 2),), wanted), 2 * wanted - 1)
            self.assertEqual(required(((5, 2), (0, 2)), wanted), 5 + 4 * wanted - 3)

    def test_one_sheet_less_is_not_enough(self):
        drawn = random.Random(114)
        for _ in range(400):
            stages = drawn_stages(drawn, drawn.choice((0, 40, 1000)), drawn.choice((3, 30, 1000)))
            wanted = drawn.choice((1, 2, 3, drawn.randint(1, 10000), 10000))
            told = required(stages, wanted)
            self.assertGreaterEqual(good_sheets(stages, told), wanted)
            self.assertLess(good_sheets(stages, told - 1), wanted)

    def test_least_number_by_trying(self):
        drawn = random.Random(115)
        for _ in range(60):
            stages, wanted = drawn_stages(drawn, 12, 12), drawn.randint(0, 15)
            tried = 0
            while len(one_by_one(stages, tried)) < wanted:
                tried += 1
            self.assertEqual(required(stages, wanted), tried, (stages, wanted))

    def test_the_greatest_inputs(self):
        begun = time.monotonic()
        told = required(((1000, 2),) * 6, 10000)
        self.assertLess(time.monotonic() - begun, 2)
        self.assertEqual(good_sheets(((1000, 2),) * 6, told), 10000)
        self.assertEqual(good_sheets(((1000, 2),) * 6, told - 1), 9999)

    def test_no_error_somewhat_beyond(self):
        self.assertEqual(required(((1, 3),), -1), 0)
        self.assertIsNone(required(((0, 1),), 5))
        self.assertEqual((good_sheets(((0, 1),), 50), survivors(((0, 1),), 50)), (0, ()))
        self.assertEqual(good_sheets(((1001, 1001),) * 7, 7006), 0)
        self.assertEqual(len(survivors(((0, 7),), 310)), 266)
