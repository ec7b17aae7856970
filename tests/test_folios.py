import random
import unittest
from itertools import product

from gathersheets.books import layout_of
from gathersheets.folios import folio, folio_list, read_folio
from tests.samplebooks import book_list
from tests.samples import plain

PLACES = [
    ["", "i", "ii", "iii", "iv", "v", "vi", "vii", "viii", "ix"],
    ["", "x", "xx", "xxx", "xl", "l", "lx", "lxx", "lxxx", "xc"],
    ["", "c", "cc", "ccc", "cd", "d", "dc", "dcc", "dccc", "cm"],
    ["", "m", "mm", "mmm"],
]


def roman(number):
    """Place by place, from the thousands on."""
    return "".join(PLACES[place][number // 10 ** place % 10] for place in (3, 2, 1, 0))


def folio_of(page, front):
    return roman(page) if page <= front else str(page - front)


class Folios(unittest.TestCase):
    def test_some(self):
        self.assertEqual((folio(4, 6), folio(7, 6)), ("iv", "1"))
        self.assertEqual([folio(page, 3) for page in range(1, 7)], ["i", "ii", "iii", "1", "2", "3"])
        self.assertEqual((folio(1, 0), folio(4500, 0)), ("1", "4500"))
        self.assertEqual([folio(page, 3999) for page in (9, 40, 90, 400, 949, 1994, 3888, 3999, 4000)],
                         ["ix", "xl", "xc", "cd", "cmxlix", "mcmxciv", "mmmdccclxxxviii", "mmmcmxcix", "1"])

    def test_all_pages_are_read_back(self):
        for front in (0, 1, 6, 48, 1999, 3999):
            for page in range(1, 4501):
                told = folio(page, front)
                self.assertEqual(told, folio_of(page, front))
                self.assertEqual(read_folio(told, front), page)

    def test_drawn_fronts(self):
        drawn = random.Random(101)
        for _ in range(2000):
            front, page = drawn.randint(0, 3999), drawn.randint(1, 4500)
            self.assertEqual(folio(page, front), folio_of(page, front))

    def test_no_error_somewhat_beyond(self):
        self.assertIsNone(folio(0, 3))
        self.assertIsNone(folio(-1, 0))
        self.assertEqual(read_folio(folio(4100, 4200), 4200), 4100)


class Reading(unittest.TestCase):
    def test_some(self):
        self.assertEqual((read_folio("iv", 6), read_folio("iv", 3), read_folio("iiii", 6)), (4, None, None))
        self.assertEqual((read_folio("1", 6), read_folio("10", 0), read_folio("501", 3999)), (7, 10, 4500))

    def test_numbers_that_are_no_front_page(self):
        self.assertEqual(read_folio("vi", 6), 6)
        self.assertIsNone(read_folio("vii", 6))
        self.assertIsNone(read_folio("i", 0))
        self.assertEqual(read_folio("mmmcmxcix", 3999), 3999)
        self.assertIsNone(read_folio("mmmcmxcix", 3998))
        self.assertIsNone(read_folio("mmmm", 3999))

    def test_texts_that_are_no_folios(self):
        for text in ("", " ", "-", "0", "00", "01", "007", "+1", "-1", " 1", "1 ", "1.0", "1_0", "\u0661", "IV", "Iv", "X",
                     "iv ", " iv", "-iv", "a", "iva", "i1", "1i", "i.", "iv\n", "1\n", "\u2173"):
            for front in (0, 6, 3999):
                self.assertIsNone(read_folio(text, front), text)

    def test_roman_numerals_in_another_writing(self):
        for text in ("iiii", "viiii", "vv", "ll", "dd", "vx", "ic", "il", "xd", "xm", "iix", "iiv", "xxc", "ixi", "ivi", "xcx",
                     "cmc", "lc", "dm", "vix", "xxxx", "cccc", "im", "ixx", "ivx", "ixix", "mcmc", "mmmcmxcixi"):
            self.assertIsNone(read_folio(text, 3999), text)

    def test_all_short_texts(self):
        pages = {roman(number): number for number in range(1, 4000)}
        for many in range(1, 6):
            for letters in product("ivxlcdm", repeat=many):
                text = "".join(letters)
                self.assertEqual(read_folio(text, 3999), pages.get(text), text)

    def test_long_texts(self):
        self.assertIsNone(read_folio("m" * 10000, 3999))
        self.assertIsNone(read_folio("i" * 3999, 3999))
        self.assertEqual(read_folio("1" + "0" * 5000, 6), 10 ** 5000 + 6)


class Lists(unittest.TestCase):
    def test_some(self):
        self.assertEqual(folio_list((((2, -3),), ((0, 1),)), 2), ((("ii", "-1"),), (("-", "i"),)))
        self.assertEqual(folio_list((((-4, 5), (0, -1)), ((2, 3), (-6, 0))), 4),
                         ((("-iv", "1"), ("-", "-i")), (("ii", "iii"), ("-2", "-"))))
        self.assertEqual(folio_list((((-1,),), ((0,),)), 0), ((("-1",),), (("-",),)))

    def test_layouts_of_books(self):
        for number, book in enumerate(book_list()):
            front = (0, 3, 7, 3999)[number % 4]
            for sheet in range(len(book[0])):
                layout = layout_of(book, sheet)
                told = folio_list(layout, front)
                self.assertTrue(plain(told))
                self.assertEqual(len(told), 2)
                for grid, texts in zip(layout, told):
                    self.assertEqual([len(row) for row in texts], [len(row) for row in grid])
                    for cell, text in zip(sum(grid, ()), sum(texts, ())):
                        wanted = "-" if cell == 0 else "-" * (cell < 0) + folio_of(abs(cell), front)
                        self.assertEqual(text, wanted)
