import random
import unittest

from gathersheets.books import blank_count
from gathersheets.errors import BadArgument
from gathersheets.forms import best_shift, pages_on, plates
from tests.samplebooks import book_list, printed_at
from tests.samples import plain

BOOK = (("L", "TL"), "gathered", 10)


def drawn_inks(drawn, pages):
    inks = []
    for _ in range(drawn.randint(0, 6)):
        many = drawn.randint(0, min(pages, drawn.choice((1, 3, 8, pages))))
        inks.append(tuple(sorted(drawn.sample(range(1, pages + 1), many))))
    return tuple(inks)


def plates_of(places, shift, inks):
    """The plates of f1, form by form."""
    many = 0
    for form in {place[:2] for place in places.values()}:
        for ink in inks:
            many += any(places[page + shift][:2] == form for page in ink)
    return many


class Pages(unittest.TestCase):
    def test_some(self):
        self.assertEqual(pages_on(BOOK, 0, "front"), (2, 3))
        self.assertEqual(pages_on(BOOK, 0, "back"), (1, 4))
        self.assertEqual(pages_on(BOOK, 1, "front"), (6, 7, 10))
        self.assertEqual(pages_on(BOOK, 1, "back"), (5, 8, 9))
        self.assertEqual(pages_on((("L", "TL"), "inset", 1), 1, "back"), ())

    def test_all_books(self):
        for book in book_list():
            places = printed_at(book)
            for sheet in range(len(book[0])):
                for side in ("front", "back"):
                    wanted = [position for position, place in places.items() if place[:2] == (sheet, side)]
                    told = pages_on(book, sheet, side)
                    self.assertEqual(told, tuple(page for page in sorted(wanted) if page <= book[2]))
                    self.assertTrue(plain(told))


class Plates(unittest.TestCase):
    def test_some(self):
        self.assertEqual(plates(BOOK, 0, ((1, 2),)), 2)
        self.assertEqual(plates(BOOK, 1, ((1, 2),)), 1)
        self.assertEqual(plates(BOOK, 2, ((1, 2),)), 2)
        self.assertEqual(plates(BOOK, 0, ()), 0)
        self.assertEqual(plates(BOOK, 0, ((), ())), 0)
        self.assertEqual(plates(BOOK, 0, ((1,), (1,), (1, 4))), 3)
        self.assertEqual(plates(BOOK, 0, (tuple(range(1, 11)),)), 4)

    def test_drawn_inks(self):
        drawn = random.Random(21)
        for book in book_list():
            places = printed_at(book)
            blanks = blank_count(book)
            for shift in sorted({0, blanks, blanks // 2, drawn.randint(0, blanks)}):
                inks = drawn_inks(drawn, book[2])
                self.assertEqual(plates(book, shift, inks), plates_of(places, shift, inks))

    def test_a_shift_that_is_refused(self):
        for book in book_list()[::3] + [BOOK]:
            for shift in (-1, -100, blank_count(book) + 1, blank_count(book) + 50):
                with self.assertRaises(BadArgument) as caught:
                    plates(book, shift, ((1,),))
                self.assertEqual(caught.exception.reason, "shift")

    def test_a_shift_of_all_blanks(self):
        self.assertEqual(plates((("L",), "gathered", 1), 3, ((1,),)), 1)
        with self.assertRaises(BadArgument):
            plates((("L",), "gathered", 4), 1, ((1,),))

    def test_inks_of_pages_that_the_book_has_not(self):
        self.assertEqual(plates(BOOK, 2, ((1, 11, 12, 500),)), plates(BOOK, 2, ((1,),)))


class BestShift(unittest.TestCase):
    def test_some(self):
        self.assertEqual(best_shift(BOOK, ((1, 2),)), (1, 1))
        self.assertEqual(best_shift(BOOK, ()), (0, 0))
        self.assertEqual(best_shift((("L",), "gathered", 4), ((1, 2), (1,))), (0, 3))
        self.assertEqual(best_shift((("L", "L"), "gathered", 1), ((1,),)), (0, 1))

    def test_drawn_inks(self):
        drawn = random.Random(22)
        for book in book_list():
            places = printed_at(book)
            inks = drawn_inks(drawn, book[2])
            counts = [plates_of(places, shift, inks) for shift in range(blank_count(book) + 1)]
            told = best_shift(book, inks)
            self.assertEqual(told, (counts.index(min(counts)), min(counts)))
            self.assertTrue(plain(told))
