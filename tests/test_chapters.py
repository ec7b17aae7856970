import random
import time
import unittest
from itertools import permutations

from gathersheets.chapters import beginnings, best_order, blanks_within, length_of
from tests.samples import plain


def bound(chapters, order, rule):
    """The pages of the book, one by one: the number of the chapter, or None if the page is passed over."""
    pages = []
    for chapter in order:
        if rule == "odd" and len(pages) % 2 == 1:
            pages.append(None)
        pages.extend([chapter] * chapters[chapter])
    return pages


def drawn_chapters(drawn, most=7):
    return tuple(drawn.randint(1, drawn.choice((3, 20, 200))) for _ in range(drawn.randint(1, most)))


class Beginnings(unittest.TestCase):
    def test_some(self):
        self.assertEqual(beginnings((3, 4, 5), (0, 1, 2), "odd"), (1, 5, 9))
        self.assertEqual(beginnings((3, 4, 5), (0, 1, 2), "any"), (1, 4, 8))
        self.assertEqual(beginnings((3, 4, 5), (2, 1, 0), "any"), (1, 6, 10))
        self.assertEqual(beginnings((3, 4, 5), (2, 1, 0), "odd"), (1, 7, 11))
        self.assertEqual(beginnings((1,), (0,), "odd"), (1,))

    def test_counts(self):
        self.assertEqual(blanks_within((3, 4, 5), (0, 1, 2), "odd"), 1)
        self.assertEqual(blanks_within((3, 4, 5), (0, 1, 2), "any"), 0)
        self.assertEqual(length_of((3, 4, 5), (0, 1, 2), "odd"), 13)
        self.assertEqual(length_of((3, 4, 5), (0, 1, 2), "any"), 12)
        self.assertEqual(length_of((4, 3), (0, 1), "odd"), 7)
        self.assertEqual(length_of((200,), (0,), "odd"), 200)

    def test_drawn_chapters_page_by_page(self):
        drawn = random.Random(81)
        for _ in range(200):
            chapters = drawn_chapters(drawn)
            order = tuple(drawn.sample(range(len(chapters)), len(chapters)))
            for rule in ("any", "odd"):
                pages = bound(chapters, order, rule)
                told = beginnings(chapters, order, rule)
                self.assertEqual(told, tuple(pages.index(chapter) + 1 for chapter in order))
                self.assertEqual(length_of(chapters, order, rule), len(pages))
                self.assertEqual(blanks_within(chapters, order, rule), pages.count(None))
                self.assertTrue(plain(told))
                if rule == "odd":
                    self.assertTrue(all(page % 2 == 1 for page in told))


class BestOrder(unittest.TestCase):
    def test_some(self):
        self.assertEqual(best_order((3, 4, 5)), (0, 1, 2))
        self.assertEqual(best_order((3, 4, 6)), (1, 2, 0))
        self.assertEqual(best_order((3, 5, 6)), (0, 2, 1))

    def test_no_odd_chapter(self):
        self.assertEqual(best_order((4, 2, 8)), (0, 1, 2))
        self.assertEqual(blanks_within((4, 2, 8), (0, 1, 2), "odd"), 0)

    def test_all_chapters_odd(self):
        self.assertEqual(best_order((1, 3, 5, 7)), (0, 1, 2, 3))
        self.assertEqual(blanks_within((1, 3, 5, 7), (0, 1, 2, 3), "odd"), 3)

    def test_drawn_chapters_against_all_orders(self):
        drawn = random.Random(82)
        for _ in range(60):
            chapters = drawn_chapters(drawn, 5)
            orders = list(permutations(range(len(chapters))))
            blanks = [bound(chapters, order, "odd").count(None) for order in orders]
            told = best_order(chapters)
            self.assertEqual(told, orders[blanks.index(min(blanks))], chapters)
            odd = sum(pages % 2 for pages in chapters)
            self.assertEqual(blanks_within(chapters, told, "odd"), max(0, odd - 1))
            self.assertTrue(plain(told))

    def test_seven_chapters(self):
        for chapters in ((200, 199, 3, 8, 15, 2, 4), (1,) * 7, (2,) * 7, (7, 6, 5, 4, 3, 2, 1), (9, 2, 2, 2, 2, 2, 2)):
            begun = time.monotonic()
            told = best_order(chapters)
            self.assertLess(time.monotonic() - begun, 2)
            wanted = min((blanks_within(chapters, order, "odd"), order) for order in permutations(range(7)))
            self.assertEqual((blanks_within(chapters, told, "odd"), told), wanted)

    def test_no_error_somewhat_beyond(self):
        for rule in ("any", "odd"):
            self.assertEqual((beginnings((), (), rule), length_of((), (), rule), blanks_within((), (), rule)), ((), 0, 0))
            self.assertEqual(length_of((300,) * 9, tuple(range(9)), rule), 2700)
        self.assertEqual(best_order(()), ())
        self.assertEqual(best_order((3, 2) * 5), (0, 1, 2, 3, 4, 5, 6, 7, 9, 8))
