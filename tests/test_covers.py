import random
import unittest

from gathersheets.covers import bulk, case, jacket, title_places
from gathersheets.errors import BadArgument
from tests.samplebooks import book_list, bound_pages
from tests.samples import plain

BOOK = (("TL", "TL"), "gathered", 16)


class Bulk(unittest.TestCase):
    def test_some(self):
        self.assertEqual(bulk(BOOK, 2), 16)
        self.assertEqual(bulk((("L",), "inset", 1), 5), 10)

    def test_blank_leaves_count_too(self):
        for book in book_list():
            self.assertEqual(bulk(book, 3), 3 * len(bound_pages(book[0], book[1])) // 2)


class Case(unittest.TestCase):
    def test_some(self):
        self.assertEqual(case(BOOK, (100, 150), 2, 3, 7, 4, 15), (93, 158, 22, 252, 188))
        self.assertEqual(case(BOOK, (100, 150), 2, 3, 99, 4, 15), (1, 158, 22, 252, 188))
        self.assertEqual(case((("L",), "gathered", 1), (20, 10), 1, 1, 1, 1, 1), (19, 12, 4, 46, 14))

    def test_drawn_measures_piece_by_piece(self):
        drawn = random.Random(61)
        for book in book_list():
            thickness, board, square, turn = [drawn.randint(1, 30) for _ in range(4)]
            page = (drawn.randint(2, 300), drawn.randint(1, 400))
            hinge = drawn.randint(1, page[0] - 1)
            told = case(book, page, thickness, board, hinge, square, turn)
            self.assertTrue(plain(told))
            # From the left: turn-in, board, hinge, spine, hinge, board, turn-in.
            spine = board + bulk(book, thickness) + board
            pieces = [turn, page[0] - hinge, hinge, spine, hinge, page[0] - hinge, turn]
            height = square + page[1] + square
            self.assertEqual(told, (page[0] - hinge, height, spine, sum(pieces), turn + height + turn))

    def test_a_hinge_that_is_refused(self):
        for width, hinge in ((100, 100), (100, 101), (100, 500), (1, 1), (7, 8)):
            with self.assertRaises(BadArgument) as caught:
                case(BOOK, (width, 150), 2, 3, hinge, 4, 15)
            self.assertEqual(caught.exception.reason, "hinge")

    def test_a_hinge_one_less_than_the_page(self):
        self.assertEqual(case(BOOK, (8, 150), 2, 3, 7, 4, 15)[0], 1)


class Jacket(unittest.TestCase):
    def test_some(self):
        self.assertEqual(jacket((93, 158, 22, 252, 188), 7, 60), (342, 158))
        self.assertEqual(jacket((19, 12, 4, 46, 14), 1, 5), (54, 12))

    def test_it_is_wider_than_the_cloth_by_its_flaps(self):
        drawn = random.Random(62)
        for _ in range(60):
            page, hinge, turn = (drawn.randint(50, 200), drawn.randint(50, 300)), drawn.randint(1, 49), drawn.randint(1, 30)
            flap = drawn.randint(1, 90)
            told = case(BOOK, page, drawn.randint(1, 9), drawn.randint(1, 9), hinge, drawn.randint(1, 9), turn)
            self.assertEqual(jacket(told, hinge, flap), (told[3] - 2 * turn + 2 * flap, told[1]))


class Titles(unittest.TestCase):
    def test_some(self):
        self.assertEqual(title_places(158, (50, 20)), (29, 108))
        self.assertEqual(title_places(100, (40,)), (30,))
        self.assertEqual(title_places(101, (40,)), (30,))

    def test_just_as_long_as_the_spine_is_high(self):
        self.assertEqual(title_places(70, (50, 20)), (0, 50))
        self.assertEqual(title_places(72, (50, 20)), (0, 50))
        self.assertEqual(title_places(73, (50, 20)), (1, 52))
        self.assertEqual(title_places(9, (9,)), (0,))

    def test_too_long(self):
        self.assertIsNone(title_places(69, (50, 20)))
        self.assertIsNone(title_places(8, (9,)))
        self.assertIsNone(title_places(10, (1,) * 11))

    def test_the_gap_is_as_great_as_can_be(self):
        drawn = random.Random(63)
        for _ in range(300):
            lengths = tuple(drawn.randint(1, 40) for _ in range(drawn.randint(1, 6)))
            height = drawn.randint(1, 200)
            told = title_places(height, lengths)
            if sum(lengths) > height:
                self.assertIsNone(told)
                continue
            gaps = {begin - end for begin, end in
                    zip(told, [0] + [begin + length for begin, length in zip(told, lengths)])}
            self.assertEqual(len(gaps), 1)
            gap = gaps.pop()
            self.assertLessEqual(sum(lengths) + gap * (len(lengths) + 1), height)
            self.assertGreater(sum(lengths) + (gap + 1) * (len(lengths) + 1), height)
            self.assertTrue(plain(told))
