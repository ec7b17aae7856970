import random
import time
import unittest

from gathersheets.books import blank_count
from gathersheets.choosing import fewest_sheets
from gathersheets.quotes import best_quote, quote
from gathersheets.spoilage import required
from tests.samplebooks import book_list, printed_at
from tests.samples import plain
from tests.test_forms import drawn_inks, plates_of
from tests.test_spoilage import drawn_stages

PRICES = (10, 7, 1, 2)


def quote_of(book, inks, copies, orders, prices):
    """The quote of u1, counted piece by piece."""
    ream, plate, fold_price, bind = prices
    needed = [required(stages, copies) for stages in orders]
    reams = 0
    while 500 * reams < sum(needed):
        reams += 1
    places = printed_at(book)
    plates = min(plates_of(places, shift, inks) for shift in range(blank_count(book) + 1))
    folds = sum(sheets for sheets, folding in zip(needed, book[0]) for _ in folding)
    told = (ream * reams, plate * plates, fold_price * folds, bind * copies)
    return told + (sum(told),)


class Quotes(unittest.TestCase):
    def test_some(self):
        self.assertEqual(quote((("L",), "gathered", 4), ((1, 2, 3, 4),), 600, ((),), PRICES), (20, 14, 600, 1200, 1834))
        self.assertEqual(quote((("L",), "gathered", 4), ((1, 2, 3, 4),), 500, ((),), PRICES), (10, 14, 500, 1000, 1524))
        self.assertEqual(quote((("L", "TL"), "gathered", 10), ((1, 2),), 100, ((), ((9, 100),)), (3, 5, 1, 1)),
                         (3, 5, 100 + 2 * 109 + 2, 100, 428))
        self.assertEqual(quote((("TL",), "inset", 8), (), 1, ((),), (0, 0, 0, 0)), (0, 0, 0, 0, 0))

    def test_plates_at_the_best_shift(self):
        # Without a shift the pages 1 and 2 would need two plates.
        self.assertEqual(quote((("L", "TL"), "gathered", 10), ((1, 2),), 1, ((), ()), (0, 1, 0, 0)), (0, 1, 0, 0, 1))

    def test_drawn_quotes(self):
        drawn = random.Random(131)
        for book in book_list():
            inks = drawn_inks(drawn, book[2])
            orders = tuple(drawn_stages(drawn) for _ in book[0])
            prices = tuple(drawn.randint(0, 40) for _ in range(4))
            copies = drawn.randint(1, 5000)
            told = quote(book, inks, copies, orders, prices)
            self.assertEqual(told, quote_of(book, inks, copies, orders, prices), book)
            self.assertTrue(plain(told))

    def test_no_error_somewhat_beyond(self):
        self.assertEqual(quote((("L",), "gathered", 4), ((1,),), 0, (((5, 5),),), PRICES), (0, 7, 0, 0, 7))
        self.assertIsNone(quote((("L",), "gathered", 4), ((1,),), 5, (((5, 1),),), PRICES))


class BestQuotes(unittest.TestCase):
    def test_some(self):
        self.assertEqual(best_quote(8, 1, (), PRICES), (2, 28))
        self.assertEqual(best_quote(4, 1, (), PRICES), (1, 27))

    def test_several_totals_alike(self):
        self.assertEqual(best_quote(60, 10, (), (0, 0, 0, 3)), (2, 30))
        self.assertEqual(best_quote(32, 10, (), (0, 0, 0, 3)), (1, 30))
        # A book of four pages has one sheet of one fold, however many folds there may be.
        self.assertEqual(best_quote(3, 10, ((1, 2),), PRICES)[0], 1)

    def test_the_least_number_of_folds_is_not_always_best(self):
        self.assertEqual(best_quote(32, 1, ((100, 2),), (1000, 0, 0, 0))[0], 2)
        self.assertEqual(best_quote(32, 1, ((300, 2),), (1000, 0, 0, 0)), (4, 1000))

    def test_all_numbers_of_pages(self):
        drawn = random.Random(132)
        for pages in range(1, 61):
            stages, copies = drawn_stages(drawn), drawn.randint(1, 5000)
            prices = tuple(drawn.randint(0, drawn.choice((0, 5, 300))) for _ in range(4))
            best = None
            for folds in range(1, 6):
                foldings = fewest_sheets(pages, folds)
                if len(foldings) > 8:
                    continue
                book = (foldings, "gathered", pages)
                total = quote_of(book, (tuple(range(1, pages + 1)),), copies, (stages,) * len(foldings), prices)[-1]
                if best is None or total < best[1]:
                    best = (folds, total)
            told = best_quote(pages, copies, stages, prices)
            self.assertEqual(told, best, pages)
            self.assertTrue(plain(told))

    def test_none_has_at_most_eight_sheets(self):
        self.assertEqual(len(fewest_sheets(500, 5)), 10)
        self.assertIsNone(best_quote(500, 10, (), PRICES))
        self.assertIsNone(best_quote(513, 10, (), PRICES))
        self.assertEqual(best_quote(512, 10, (), (0, 0, 1, 0)), (5, 400))

    def test_the_greatest_inputs(self):
        begun = time.monotonic()
        for pages in (57, 60):
            best_quote(pages, 5000, ((1000, 2),) * 6, (1000, 1000, 1000, 1000))
        self.assertLess(time.monotonic() - begun, 2)

    def test_no_error_somewhat_beyond(self):
        self.assertEqual(best_quote(0, 5, (), PRICES), (1, 10))
        self.assertIsNone(best_quote(8, 5, ((0, 1),), PRICES))
