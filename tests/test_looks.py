import time
import unittest
from itertools import product

from gathersheets.looks import hidden_pairs, look_number, looks, looks_right, pair_of_rows
from tests.samples import plain


def all_looks(sheets, rows):
    """All piles of the book's own sheets with the marks of the right one, in all rows, out of all piles."""
    marks = [tuple(sheet % steps for steps in rows) for sheet in range(sheets)]
    return [pile for pile in product(range(sheets), repeat=sheets)
            if all(marks[sheet] == mark for sheet, mark in zip(pile, marks))]


class Number(unittest.TestCase):
    def test_some(self):
        self.assertEqual(look_number(4, 2), 16)
        self.assertEqual(look_number(5, 2), 3 ** 3 * 2 ** 2)
        self.assertEqual(look_number(12, 1), 12 ** 12)
        self.assertEqual(look_number(12, 5), 3 ** 6 * 2 ** 6)
        self.assertEqual(look_number(12, 11), 4)
        self.assertEqual(look_number(1, 1), 1)

    def test_up_to_twelve_sheets(self):
        for sheets in range(1, 13):
            for steps in range(1, 25):
                groups = [len(range(step, sheets, steps)) for step in range(steps)]
                wanted = 1
                for size in groups:
                    wanted *= size ** size
                self.assertEqual(look_number(sheets, steps), wanted)

    def test_the_right_pile_alone(self):
        for sheets in range(1, 13):
            for steps in range(1, 25):
                self.assertEqual(look_number(sheets, steps) == 1, steps >= sheets)
                self.assertEqual(looks(sheets, steps, 60) == (tuple(range(sheets)),), steps >= sheets)


class Looks(unittest.TestCase):
    def test_some(self):
        self.assertEqual(looks(3, 2, 9), ((0, 1, 0), (0, 1, 2), (2, 1, 0), (2, 1, 2)))
        self.assertEqual(looks(3, 2, 3), ((0, 1, 0), (0, 1, 2), (2, 1, 0)))
        self.assertEqual(looks(3, 2, 1), ((0, 1, 0),))
        self.assertEqual(looks(2, 1, 60), ((0, 0), (0, 1), (1, 0), (1, 1)))

    def test_none_wanted(self):
        for sheets in range(1, 13):
            self.assertEqual(looks(sheets, 2, 0), ())

    def test_against_all_piles(self):
        for sheets in range(1, 7):
            for steps in range(1, 8):
                wanted = all_looks(sheets, (steps,))
                self.assertEqual(look_number(sheets, steps), len(wanted))
                for most in (1, 2, 7, 59, 60):
                    self.assertEqual(looks(sheets, steps, most), tuple(wanted[:most]))

    def test_the_first_ones_of_twelve_sheets(self):
        for steps in range(1, 25):
            begun = time.monotonic()
            told = looks(12, steps, 60)
            self.assertLess(time.monotonic() - begun, 1)
            self.assertEqual(len(told), min(60, look_number(12, steps)))
            self.assertEqual(list(told), sorted(set(told)))
            self.assertEqual(told[0], tuple(place % steps for place in range(12)))
            self.assertTrue(plain(told))
            for pile in told:
                self.assertTrue(looks_right(pile, 12, (steps,)))

    def test_no_error_somewhat_beyond(self):
        self.assertEqual(len(looks(14, 3, 100)), 100)
        self.assertEqual(looks(3, 2, -1), ())
        self.assertEqual((look_number(0, 2), looks(0, 2, 5)), (1, ((),)))
        self.assertEqual((look_number(3, 0), len(looks(3, 0, 60))), (27, 27))


class Hidden(unittest.TestCase):
    def test_some(self):
        self.assertEqual(hidden_pairs(4, 2), ((0, 2), (1, 3)))
        self.assertEqual(hidden_pairs(3, 1), ((0, 1), (0, 2), (1, 2)))
        self.assertEqual(hidden_pairs(7, 3), ((0, 3), (0, 6), (1, 4), (2, 5), (3, 6)))
        self.assertEqual(hidden_pairs(5, 5), ())

    def test_changing_places_in_the_right_pile(self):
        for sheets in range(1, 25):
            for steps in range(1, 25):
                wanted = []
                for first in range(sheets):
                    for second in range(first + 1, sheets):
                        pile = list(range(sheets))
                        pile[first], pile[second] = second, first
                        if all((sheet - place) % steps == 0 for place, sheet in enumerate(pile)):
                            wanted.append((first, second))
                told = hidden_pairs(sheets, steps)
                self.assertEqual(told, tuple(wanted))
                self.assertTrue(plain(told))


class Rows(unittest.TestCase):
    def test_some(self):
        self.assertTrue(looks_right((0, 1, 2, 3), 4, (2, 3)))
        self.assertTrue(looks_right((2, 1, 0, 3), 4, (2,)))
        self.assertFalse(looks_right((2, 1, 0, 3), 4, (2, 3)))
        self.assertFalse(looks_right((2, 1, 0, 3), 4, (3, 2)))
        self.assertFalse(looks_right((0, 1, 2), 4, (2, 3)))
        self.assertFalse(looks_right((0, 1, 2, 3, 4), 4, (2,)))
        self.assertFalse(looks_right((), 1, (1,)))
        self.assertTrue(looks_right((6, 7, 8), 3, (2, 3)))
        self.assertFalse(looks_right((2, 3, 0, 1, 4), 5, (1, 2, 3)))

    def test_all_piles_of_few_sheets(self):
        for sheets in (1, 2, 3, 4):
            for rows in ((1,), (2,), (3,), (1, 2), (2, 2), (2, 3), (3, 1, 2), (4, 2)):
                right = set(all_looks(sheets, rows))
                for pile in product(range(sheets), repeat=sheets):
                    self.assertEqual(looks_right(pile, sheets, rows), pile in right)

    def test_no_row_at_all_shows_nothing(self):
        self.assertTrue(looks_right((3, 1), 4, ()))


class Pair(unittest.TestCase):
    def test_some(self):
        self.assertEqual(pair_of_rows(12, 24), (3, 4))
        self.assertEqual(pair_of_rows(1, 1), (1, 1))
        self.assertEqual(pair_of_rows(2, 24), (1, 2))
        self.assertEqual(pair_of_rows(24, 24), (3, 8))
        self.assertEqual(pair_of_rows(24, 5), None)
        self.assertEqual(pair_of_rows(20, 5), (4, 5))

    def test_none(self):
        self.assertIsNone(pair_of_rows(7, 2))
        self.assertIsNone(pair_of_rows(2, 1))
        self.assertIsNone(pair_of_rows(7, 3))
        self.assertIsNone(pair_of_rows(24, 4))

    def test_all_sheets_and_steps(self):
        begun = time.monotonic()
        told = {(sheets, most): pair_of_rows(sheets, most) for sheets in range(1, 25) for most in range(1, 25)}
        self.assertLess(time.monotonic() - begun, 3)
        for (sheets, most), pair in told.items():
            # The right pile alone looks right if no two sheets have both their marks alike.
            good = [(first + second, first, second) for second in range(1, most + 1) for first in range(1, second + 1)
                    if len({(sheet % first, sheet % second) for sheet in range(sheets)}) == sheets]
            self.assertEqual(pair, min(good)[1:] if good else None, (sheets, most))
            self.assertTrue(plain(pair))

    def test_against_all_piles_of_few_sheets(self):
        for sheets in range(1, 6):
            for first in range(1, 6):
                for second in range(first, 6):
                    alone = len(all_looks(sheets, (first, second))) == 1
                    pair = pair_of_rows(sheets, second)
                    if alone:
                        self.assertLessEqual(sum(pair), first + second)
                    else:
                        self.assertNotEqual(pair, (first, second))

    def test_no_error_somewhat_beyond(self):
        self.assertEqual(pair_of_rows(0, 3), (1, 1))
        self.assertEqual(pair_of_rows(30, 30), (5, 6))
        self.assertIsNone(pair_of_rows(1, 0))
