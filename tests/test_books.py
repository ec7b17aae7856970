import unittest

from gathersheets.books import blank_count, check_book, layout_of, locate, position_count, position_of
from gathersheets.errors import BadBook
from gathersheets.imposition import impose
from tests.samplebooks import book_list, bound_pages, printed_at
from tests.samples import BEYOND, plain

GATHERED = (("L", "TL"), "gathered", 10)
INSET = (("L", "TL"), "inset", 10)


class Positions(unittest.TestCase):
    def test_counts(self):
        self.assertEqual((position_count(GATHERED), blank_count(GATHERED)), (12, 2))
        self.assertEqual((position_count(INSET), blank_count(INSET)), (12, 2))
        self.assertEqual(position_count((("LTLTL",) * 8, "inset", 1)), 512)
        self.assertEqual(blank_count((("LTLTL",) * 8, "inset", 1)), 511)
        self.assertEqual(blank_count((("L",), "gathered", 4)), 0)

    def test_some_places(self):
        self.assertEqual([locate(GATHERED, k) for k in (1, 4, 5, 12)], [(0, 1), (0, 4), (1, 1), (1, 8)])
        self.assertEqual([locate(INSET, k) for k in (1, 2, 3, 10, 11, 12)],
                         [(0, 1), (0, 2), (1, 1), (1, 8), (0, 3), (0, 4)])
        self.assertEqual(position_of(GATHERED, 1, 1), 5)
        self.assertEqual([position_of(INSET, 0, page) for page in (1, 2, 3, 4)], [1, 2, 11, 12])

    def test_three_sheets_set_into_one_another(self):
        book = (("L", "TL", "L"), "inset", 16)
        self.assertEqual([position_of(book, 0, page) for page in range(1, 5)], [1, 2, 15, 16])
        self.assertEqual([position_of(book, 1, page) for page in range(1, 9)], [3, 4, 5, 6, 11, 12, 13, 14])
        self.assertEqual([position_of(book, 2, page) for page in range(1, 5)], [7, 8, 9, 10])

    def test_all_positions_of_all_books(self):
        for book in book_list():
            order = bound_pages(book[0], book[1])
            self.assertEqual(position_count(book), len(order))
            self.assertEqual(blank_count(book), len(order) - book[2])
            for position, (sheet, page) in enumerate(order, 1):
                self.assertEqual(locate(book, position), (sheet, page))
                self.assertEqual(position_of(book, sheet, page), position)

    def test_no_error_for_positions_beyond(self):
        for position in (-1, 0, 13, 100):
            self.assertIsNone(locate(GATHERED, position))
            self.assertIsNone(locate(INSET, position))
        for sheet, page in ((0, 0), (0, 5), (1, 9), (2, 1)):
            self.assertIsNone(position_of(GATHERED, sheet, page))


class Layouts(unittest.TestCase):
    def test_some(self):
        self.assertEqual(layout_of(GATHERED, 0), impose("L"))
        self.assertEqual(layout_of(GATHERED, 1), (((-7, -10), (6, 0)), ((-8, -9), (5, 0))))
        self.assertEqual(layout_of((("L",), "gathered", 3), 0), (((2, 3),), ((1, 0),)))
        self.assertEqual(layout_of(INSET, 0), (((2, 0),), ((1, 0),)))
        self.assertEqual(layout_of(INSET, 1), (((-5, -8), (4, 9)), ((-6, -7), (3, 10))))

    def test_each_page_is_replaced_by_its_position(self):
        for book in book_list():
            places = printed_at(book)
            for sheet in range(len(book[0])):
                layout = layout_of(book, sheet)
                self.assertTrue(plain(layout))
                cells = dict(zip(("front", "back"), layout))
                for position, (which, side, column, row, head) in places.items():
                    if which == sheet:
                        wanted = position if position <= book[2] else 0
                        self.assertEqual(cells[side][row][column], wanted if head == "up" else -wanted)

    def test_a_sheet_alone_is_its_imposition(self):
        for folding in ("L", "R", "TB", "LTL", "BRTLB"):
            book = ((folding,), "gathered", 2 << len(folding))
            self.assertEqual(layout_of(book, 0), impose(folding))

    def test_somewhat_beyond(self):
        for foldings in (tuple(BEYOND), ("TL",) * 10):
            book = (foldings, "gathered", 30)
            order = bound_pages(foldings, "gathered")
            self.assertEqual(position_count(book), len(order))
            self.assertEqual(locate(book, len(order)), order[-1])
            self.assertTrue(plain(layout_of(book, len(foldings) - 1)))


class Checks(unittest.TestCase):
    def refused(self, book, reason):
        with self.assertRaises(BadBook) as caught:
            check_book(book)
        self.assertEqual(caught.exception.reason, reason, book)

    def test_books_are_not_refused(self):
        for book in book_list():
            self.assertIsNone(check_book(book))

    def test_foldings(self):
        for foldings in [(), ("L",) * 9, ("",), ("L", ""), ("LX",), ("L", "l"), ("LLLLLL",), ("TLTLTL", "L"),
                         (None,), (5,), (("L",),), ("L", ["L"])]:
            self.refused((foldings, "gathered", 1), "folding")
            self.refused((foldings, "inset", 1), "folding")

    def test_binding(self):
        for binding in ["", "glued", "Gathered", "inset ", None, 0, ("inset",)]:
            self.refused((("L",), binding, 1), "binding")

    def test_spine(self):
        for foldings in [("R",), ("L", "LT"), ("LR", "L"), ("TL", "L", "B")]:
            self.refused((foldings, "inset", 1), "spine")
            self.assertIsNone(check_book((foldings, "gathered", 1)))

    def test_pages(self):
        for foldings in [("L",), ("L", "TL"), ("LTLTL",) * 8]:
            for binding in ("gathered", "inset"):
                many = sum(2 << len(folding) for folding in foldings)
                for pages in (-1, 0, many + 1, 1000):
                    self.refused((foldings, binding, pages), "pages")
                self.assertIsNone(check_book((foldings, binding, 1)))
                self.assertIsNone(check_book((foldings, binding, many)))

    def test_the_first_reason_is_told(self):
        self.refused((("LX",), "glued", 0), "folding")
        self.refused((("R", "LX"), "inset", 0), "folding")
        self.refused(((), "inset", 0), "folding")
        self.refused((("R",), "glued", 0), "binding")
        self.refused((("L",), "glued", 5), "binding")
        self.refused((("R",), "inset", 0), "spine")
        self.refused((("R",), "inset", 5), "spine")
        self.refused((("R",), "gathered", 5), "pages")

    def test_others_are_handed_books(self):
        self.assertEqual(position_count((("R",), "glued", 0)), 4)
        self.assertEqual(layout_of((("R",), "inset", 4), 0), impose("R"))
