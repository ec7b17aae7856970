import random
import time
import unittest
from functools import lru_cache

from gathersheets.parents import best_parent, cut_yield, straight_yield
from tests.samples import plain


def straight_by_laying(parent, sheet):
    """Sheets laid side by side from one corner, all one way, until they stand out."""
    best = 0
    for width, height in (sheet, sheet[::-1]):
        places = [(x, y) for x in range(0, parent[0], width) for y in range(0, parent[1], height)
                  if x + width <= parent[0] and y + height <= parent[1]]
        best = max(best, len(places))
    return best


def cuts_of(sheet):
    """The yield over all cuts, each at each whole number, as k1 tells."""
    @lru_cache(maxsize=None)
    def told(width, height):
        if (width, height) in (sheet, sheet[::-1]):
            return 1
        across = [told(cut, height) + told(width - cut, height) for cut in range(1, width)]
        down = [told(width, cut) + told(width, height - cut) for cut in range(1, height)]
        return max(across + down, default=0)
    return told


class Straight(unittest.TestCase):
    def test_some(self):
        self.assertEqual(straight_yield((5, 5), (2, 3)), 2)
        self.assertEqual(straight_yield((4, 6), (2, 3)), 4)
        self.assertEqual(straight_yield((6, 4), (2, 3)), 4)
        self.assertEqual(straight_yield((400, 400), (1, 1)), 160000)

    def test_a_sheet_as_great_as_its_parent_or_greater(self):
        self.assertEqual(straight_yield((5, 7), (5, 7)), 1)
        self.assertEqual(straight_yield((5, 7), (7, 5)), 1)
        self.assertEqual(straight_yield((5, 7), (5, 8)), 0)
        self.assertEqual(straight_yield((5, 7), (6, 6)), 0)
        self.assertEqual(straight_yield((5, 7), (400, 1)), 0)

    def test_drawn_measures(self):
        drawn = random.Random(71)
        for _ in range(300):
            parent = (drawn.randint(1, 60), drawn.randint(1, 60))
            sheet = (drawn.randint(1, 30), drawn.randint(1, 30))
            told = straight_yield(parent, sheet)
            self.assertEqual(told, straight_by_laying(parent, sheet), (parent, sheet))
            self.assertEqual(told, straight_yield(parent, sheet[::-1]))
            self.assertEqual(told, straight_yield(parent[::-1], sheet))


class Cuts(unittest.TestCase):
    def test_some(self):
        self.assertEqual(cut_yield((5, 5), (2, 3)), 3)
        self.assertEqual(cut_yield((4, 6), (2, 3)), 4)
        self.assertEqual(cut_yield((6, 6), (2, 3)), 6)
        self.assertEqual(cut_yield((7, 4), (2, 3)), 4)

    def test_a_sheet_as_great_as_its_parent_or_greater(self):
        self.assertEqual(cut_yield((5, 7), (5, 7)), 1)
        self.assertEqual(cut_yield((5, 7), (7, 5)), 1)
        self.assertEqual(cut_yield((5, 7), (5, 8)), 0)
        self.assertEqual(cut_yield((1, 1), (1, 1)), 1)
        self.assertEqual(cut_yield((1, 1), (1, 2)), 0)

    def test_all_parents_up_to_ten_by_ten_against_all_cuts(self):
        for width in range(1, 7):
            for height in range(width, 11):
                told = cuts_of((width, height))
                for parent in [(x, y) for x in range(1, 11) for y in range(1, 11)]:
                    wanted = told(*parent)
                    self.assertEqual(cut_yield(parent, (width, height)), wanted, (parent, width, height))
                    self.assertEqual(cut_yield(parent, (height, width)), wanted)
                    self.assertGreaterEqual(wanted, straight_yield(parent, (width, height)))

    def test_great_parents(self):
        drawn = random.Random(72)
        for parent in ((60, 60), (60, 59), (37, 60), (60, 1)):
            for _ in range(4):
                sheet = (drawn.randint(1, 20), drawn.randint(1, 20))
                begun = time.monotonic()
                told = cut_yield(parent, sheet)
                self.assertLess(time.monotonic() - begun, 2)
                self.assertGreaterEqual(told, straight_yield(parent, sheet))
                self.assertLessEqual(told * sheet[0] * sheet[1], parent[0] * parent[1])
        self.assertEqual(cut_yield((60, 60), (1, 1)), 3600)
        self.assertEqual(cut_yield((60, 60), (7, 11)), cuts_of((7, 11))(60, 60))


class BestParent(unittest.TestCase):
    def test_some(self):
        self.assertEqual(best_parent(((5, 5), (4, 6)), (3, 4), (2, 3), 9), (1, 12))
        self.assertEqual(best_parent(((5, 5), (4, 6)), (1, 4), (2, 3), 9), (0, 5))
        self.assertEqual(best_parent(((5, 5), (4, 6)), (3, 4), (2, 3), 1), (0, 3))

    def test_straight_yields_are_counted(self):
        # By other cuts a parent of 5 by 5 would yield 3.
        self.assertEqual(best_parent(((5, 5),), (1,), (2, 3), 3), (0, 2))

    def test_the_first_one_of_several(self):
        self.assertEqual(best_parent(((4, 6), (6, 4), (2, 3)), (4, 4, 1), (2, 3), 8), (0, 8))
        self.assertEqual(best_parent(((1, 1), (2, 3), (3, 2)), (0, 0, 0), (2, 3), 5), (1, 0))

    def test_none_yields_any(self):
        self.assertIsNone(best_parent(((5, 5), (4, 6)), (3, 4), (7, 1), 1))
        self.assertIsNone(best_parent(((1, 1),), (0,), (1, 2), 9))
        self.assertEqual(best_parent(((1, 1), (1, 2)), (0, 50), (1, 2), 9), (1, 450))

    def test_drawn_parents(self):
        drawn = random.Random(73)
        for _ in range(200):
            many = drawn.randint(1, 8)
            parents = tuple((drawn.randint(1, 40), drawn.randint(1, 40)) for _ in range(many))
            prices = tuple(drawn.randint(0, 9) for _ in range(many))
            sheet, wanted = (drawn.randint(1, 25), drawn.randint(1, 25)), drawn.randint(1, 60)
            best = None
            for number in range(many):
                held = straight_by_laying(parents[number], sheet)
                needed = 1
                while held > 0 and needed * held < wanted:
                    needed += 1
                if held > 0 and (best is None or needed * prices[number] < best[1]):
                    best = (number, needed * prices[number])
            told = best_parent(parents, prices, sheet, wanted)
            self.assertEqual(told, best)
            self.assertTrue(plain(told))

    def test_no_error_somewhat_beyond(self):
        self.assertEqual(straight_yield((5, 5), (0, 3)), 0)
        self.assertEqual(cut_yield((5, 5), (0, 3)), 0)
        self.assertEqual(cut_yield((0, 5), (1, 3)), 0)
        self.assertEqual(straight_yield((0, 5), (1, 3)), 0)
        self.assertEqual(cut_yield((70, 65), (10, 5)), 91)
        self.assertEqual(best_parent((), (), (2, 3), 9), None)
        self.assertEqual(best_parent(((2, 3),), (7,), (2, 3), 0), (0, 0))
