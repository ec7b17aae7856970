import random
import unittest

from gathersheets.books import blank_count, layout_of, position_count
from gathersheets.spreads import best_spread_shift, is_natural, spreads
from tests.samplebooks import book_list
from tests.samples import plain


def natural_pairs(book):
    """All (p, p + 1) that are seen side by side on one side of a sheet, with both heads up."""
    foldings, binding, _ = book
    whole = (foldings, binding, position_count(book))
    found = set()
    for sheet in range(len(foldings)):
        front, back = layout_of(whole, sheet)
        seen = [front, tuple(row[::-1] for row in back)]
        seen += [tuple(tuple(-cell for cell in row[::-1]) for row in grid[::-1]) for grid in seen]
        for grid in seen:
            for row in grid:
                for left, right in zip(row, row[1:]):
                    if left > 0 and right == left + 1:
                        found.add((left, right))
    return found


class Spreads(unittest.TestCase):
    def test_some(self):
        self.assertEqual(spreads((("TL",), "gathered", 6)), ((2, 3), (4, 5), (6, 7)))
        self.assertEqual(spreads((("L",), "gathered", 1)), ((2, 3),))
        self.assertEqual(spreads((("L", "L"), "inset", 8)), ((2, 3), (4, 5), (6, 7)))

    def test_all_books(self):
        for book in book_list():
            told = spreads(book)
            self.assertEqual(told, tuple((k, k + 1) for k in range(2, position_count(book), 2)))
            self.assertEqual(told[-1][1], position_count(book) - 1)
            self.assertTrue(plain(told))


class Natural(unittest.TestCase):
    def test_some(self):
        book = (("TL",), "gathered", 6)
        self.assertEqual([is_natural(book, first) for first in (2, 4, 6)], [False, True, False])
        self.assertIs(is_natural((("L",), "gathered", 4), 2), True)
        self.assertIs(is_natural((("R",), "gathered", 4), 2), False)
        self.assertIs(is_natural((("T",), "gathered", 4), 2), False)

    def test_pages_of_two_sheets_are_never_natural(self):
        self.assertIs(is_natural((("L", "L"), "gathered", 8), 4), False)
        self.assertIs(is_natural((("L", "L"), "inset", 8), 2), False)
        self.assertIs(is_natural((("L", "L"), "inset", 8), 4), True)

    def test_blank_positions_too(self):
        self.assertIs(is_natural((("L",), "gathered", 1), 2), True)
        self.assertIs(is_natural((("TL",), "inset", 1), 4), True)

    def test_all_books(self):
        for book in book_list():
            pairs = natural_pairs(book)
            for first, second in spreads(book):
                self.assertIs(is_natural(book, first), (first, second) in pairs, (book, first))

    def test_no_error_beyond(self):
        book = (("TL",), "gathered", 8)
        for position in (0, 8, 10, 100):
            self.assertIs(is_natural(book, position), False)


class BestShift(unittest.TestCase):
    def test_some(self):
        self.assertEqual(best_spread_shift((("TL",), "gathered", 6), (2,)), (2, 1))
        self.assertEqual(best_spread_shift((("TL",), "gathered", 7), (2,)), (0, 0))
        self.assertEqual(best_spread_shift((("TL",), "gathered", 5), (4,)), (0, 1))
        self.assertEqual(best_spread_shift((("L", "L"), "gathered", 3), ()), (0, 0))

    def test_drawn_firsts(self):
        drawn = random.Random(31)
        for book in book_list():
            pairs = natural_pairs(book)
            possible = range(2, book[2], 2)
            firsts = tuple(sorted(drawn.sample(possible, drawn.randint(0, min(8, len(possible))))))
            shifts = range(0, blank_count(book) + 1, 2)
            counts = [sum((p + s, p + s + 1) in pairs for p in firsts) for s in shifts]
            told = best_spread_shift(book, firsts)
            self.assertEqual(told, (2 * counts.index(max(counts)), max(counts)), (book, firsts))
            self.assertTrue(plain(told))

    def test_even_shifts_alone(self):
        for book in book_list():
            self.assertEqual(best_spread_shift(book, tuple(range(2, book[2], 2)))[0] % 2, 0)
