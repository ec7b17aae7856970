import unittest

from gathersheets.creep import creep_of, widest_creep
from tests.samplebooks import book_list, bound_pages

GATHERED = (("L", "TL"), "gathered", 10)
INSET = (("L", "TL"), "inset", 10)


def depths(book):
    """For each position of a book how many leaves lie outside of its leaf, as e1 tells."""
    foldings, binding, _ = book
    order = bound_pages(foldings, binding)
    if binding == "inset":
        groups = [list(range(0, len(order), 2))]
    else:
        groups = [[at for at in range(0, len(order), 2) if order[at][0] == k] for k in range(len(foldings))]
    told = {}
    for group in groups:
        for number, at in enumerate(group):
            outside = min(len(group[:number]), len(group[number + 1:]))
            told[at + 1] = told[at + 2] = outside
    return told


class Creep(unittest.TestCase):
    def test_some(self):
        self.assertEqual(creep_of(INSET, 5, 3), 6)
        self.assertEqual([creep_of(INSET, k, 1) for k in range(1, 13)], [0, 0, 1, 1, 2, 2, 2, 2, 1, 1, 0, 0])
        self.assertEqual([creep_of(GATHERED, k, 5) for k in range(1, 13)], [0] * 6 + [5] * 4 + [0, 0])

    def test_all_positions_of_all_books(self):
        for number, book in enumerate(book_list()):
            thickness = (1, 7, 12)[number % 3]
            wanted = {position: thickness * depth for position, depth in depths(book).items()}
            told = {position: creep_of(book, position, thickness) for position in wanted}
            self.assertEqual(told, wanted, book)
            self.assertEqual(widest_creep(book, thickness), max(wanted.values()), book)

    def test_a_thickness_of_nothing(self):
        for book in (GATHERED, INSET):
            self.assertEqual({creep_of(book, position, 0) for position in range(1, 13)}, {0})
            self.assertEqual(widest_creep(book, 0), 0)

    def test_no_error_for_positions_beyond(self):
        for position in (-1, 0, 13, 50):
            self.assertIsNone(creep_of(GATHERED, position, 3))
            self.assertIsNone(creep_of(INSET, position, 3))


class Widest(unittest.TestCase):
    def test_some(self):
        self.assertEqual(widest_creep(INSET, 3), 6)
        self.assertEqual(widest_creep(GATHERED, 3), 3)
        self.assertEqual(widest_creep((("L",), "gathered", 1), 9), 0)
        self.assertEqual(widest_creep((("L",) * 8, "gathered", 1), 9), 0)
        self.assertEqual(widest_creep((("L",) * 8, "inset", 1), 9), 63)
        self.assertEqual(widest_creep((("LTLTL",) * 8, "inset", 1), 2), 254)
        self.assertEqual(widest_creep((("LTLTL", "L"), "gathered", 1), 2), 30)
