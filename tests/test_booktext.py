import random
import unittest

from gathersheets.books import check_book, layout_of
from gathersheets.booktext import book_text, layout_text, parse_book
from gathersheets.errors import BadText
from tests.samplebooks import book_list
from tests.samples import ALL_FOLDINGS, plain


class BookTexts(unittest.TestCase):
    def test_some(self):
        self.assertEqual(book_text((("L", "TL"), "inset", 10)), "book inset 10\nsheet L\nsheet TL")
        self.assertEqual(book_text((("BRBRT",), "gathered", 1)), "book gathered 1\nsheet BRBRT")

    def test_all_books_are_read_back(self):
        for book in book_list():
            text = book_text(book)
            told = parse_book(text)
            self.assertEqual(told, book)
            self.assertTrue(plain(told))
            self.assertEqual(book_text(told), text)

    def test_all_foldings_are_read_back(self):
        for folding in ALL_FOLDINGS:
            book = ((folding,), "gathered", 3)
            self.assertEqual(parse_book(book_text(book)), book)


class Refused(unittest.TestCase):
    def refused(self, text, line, reason):
        with self.assertRaises(BadText) as caught:
            parse_book(text)
        self.assertEqual((caught.exception.line, caught.exception.reason), (line, reason), text)

    def test_first_lines_that_are_none(self):
        for head in ("", " ", "book", "book ", "book gathered", "book gathered ", "book  gathered 4", " book gathered 4",
                     "book gathered 4 ", "book gathered  4", "Book gathered 4", "book Gathered 4", "book glued 4",
                     "book 4 gathered", "book gathered 4 4", "book gathered -1", "book gathered +4", "book gathered 4.0",
                     "book gathered four", "book gathered \u0664", "book gathered 4\r", "book\tgathered 4", "books inset 4",
                     "book gathered inset 4", "sheet L", "sheet", "undo", "book gathered 1_0"):
            self.refused(head + "\nsheet L", 1, "not a line")
            self.refused(head, 1, "not a line")

    def test_numbers(self):
        for number in ("00", "01", "007", "000000", "0100", "1000000", "1234567", "0000001"):
            self.refused("book gathered " + number + "\nsheet L", 1, "not a line")
        for number in ("999999", "100000", "5"):
            self.refused("book gathered " + number + "\nsheet L", 1, "pages")
        self.assertEqual(parse_book("book gathered 4\nsheet L"), (("L",), "gathered", 4))

    def test_a_book_of_no_pages(self):
        self.refused("book gathered 0\nsheet L", 1, "pages")
        self.refused("book inset 0\nsheet L", 1, "pages")

    def test_sheets_that_are_none(self):
        for sheet in ("", "sheet", "sheet ", "sheet  L", " sheet L", "sheet L ", "sheet l", "Sheet L", "sheet LX", "L",
                      "sheet LLLLLL", "sheet L L", "sheetL", "sheet\tL", "sheet L\r", "book gathered 4", "sheets L"):
            self.refused("book gathered 4\n" + sheet, 2, "not a line")
            self.refused("book gathered 4\nsheet L\nsheet TL\n" + sheet + "\nsheet X", 4, "not a line")

    def test_a_newline_at_the_end(self):
        self.refused("book gathered 4\nsheet L\n", 3, "not a line")
        self.refused("book gathered 4\n", 2, "not a line")
        self.refused("book gathered 4\n\nsheet L", 2, "not a line")
        self.refused("", 1, "not a line")
        self.refused("\n", 1, "not a line")

    def test_too_many_sheets(self):
        eight = "book gathered 4" + "\nsheet L" * 8
        self.assertEqual(parse_book(eight), (("L",) * 8, "gathered", 4))
        self.refused(eight + "\nsheet L", 10, "too many sheets")
        self.refused(eight + "\nsheet L\nsheet X", 10, "too many sheets")
        self.refused(eight + "\nsheet X\nsheet L", 10, "not a line")
        self.refused(eight + "\n", 10, "not a line")
        self.refused("book inset 0" + "\nsheet R" * 12, 10, "too many sheets")
        self.refused("book gathered 4" + "\nsheet L" * 7 + "\nsheet X" + "\nsheet L" * 4, 9, "not a line")

    def test_no_sheet(self):
        self.refused("book gathered 4", 1, "folding")
        self.refused("book inset 0", 1, "folding")

    def test_reasons_of_books(self):
        self.refused("book inset 10\nsheet L\nsheet LT", 1, "spine")
        self.refused("book inset 999\nsheet R", 1, "spine")
        self.refused("book inset 0\nsheet LT", 1, "spine")
        self.refused("book gathered 5\nsheet R", 1, "pages")
        self.refused("book inset 13\nsheet L\nsheet TL", 1, "pages")

    def test_lines_are_told_ahead_of_reasons_of_books(self):
        self.refused("book inset 0\nsheet R\nsheet X", 3, "not a line")
        self.refused("book inset 0\nsheet R\nsheet X\nsheet", 3, "not a line")

    def test_drawn_texts_are_read_back_or_refused(self):
        drawn = random.Random(91)
        texts = [book_text(book) for book in drawn.sample(book_list(), 25)]
        for _ in range(1500):
            text = drawn.choice(texts)
            at = drawn.randint(0, len(text))
            put = drawn.choice(["", "", "0", "1", " ", "\n", "L", "T", "x", "\nsheet L"])
            changed = text[:at] + put + text[at + drawn.randint(0, 2):]
            try:
                book = parse_book(changed)
            except BadText as refused:
                self.assertIn(refused.reason, ("not a line", "too many sheets", "folding", "spine", "pages"))
                self.assertTrue(1 <= refused.line <= changed.count("\n") + 1)
                continue
            self.assertIsNone(check_book(book))
            self.assertEqual(book_text(book), changed)


class LayoutTexts(unittest.TestCase):
    def test_some(self):
        self.assertEqual(layout_text((((2, -3),), ((1, 0),))), "2 -3\nback\n1 0")
        self.assertEqual(layout_text((((1,), (-20,), (0,)), ((-4,), (5,), (0,)))), "1\n-20\n0\nback\n-4\n5\n0")
        self.assertEqual(layout_text(layout_of((("TL",), "gathered", 7), 0)), "-3 -6\n2 7\nback\n-4 -5\n1 0")

    def test_all_layouts(self):
        for book in book_list():
            for sheet in range(len(book[0])):
                layout = layout_of(book, sheet)
                front, _, back = layout_text(layout).partition("\nback\n")
                told = tuple(tuple(tuple(int(cell) for cell in line.split(" ")) for line in part.split("\n"))
                             for part in (front, back))
                self.assertEqual(told, layout)

    def test_no_error_for_grids_without_rows(self):
        self.assertEqual(layout_text(((), ())), "back")
