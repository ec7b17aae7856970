import random
import time
import unittest
from itertools import product

from gathersheets.errors import BadArgument
from gathersheets.shelves import fewest_shelves
from tests.samples import plain


def ways(thicknesses, copies, width):
    """All ways to put the titles on shelves that are wide enough, each shelf numbered by its first title."""
    told = []
    for numbers in product(range(len(copies)), repeat=len(copies)):
        shelves = {}
        for title, shelf in enumerate(numbers):
            shelves.setdefault(shelf, []).extend([thicknesses[title]] * copies[title])
        if list(shelves) == list(range(len(shelves))) and all(sum(shelf) <= width for shelf in shelves.values()):
            told.append(numbers)
    return told


def fewest_by_trying(thicknesses, copies, width):
    """The first shelf for each title, one after the other, with which the fewest can still be had."""
    left = ways(thicknesses, copies, width)
    fewest = min(len(set(numbers)) for numbers in left)
    left = [numbers for numbers in left if len(set(numbers)) == fewest]
    for title in range(len(copies)):
        first = min(numbers[title] for numbers in left)
        left = [numbers for numbers in left if numbers[title] == first]
    return fewest, left[0]


class Shelves(unittest.TestCase):
    def test_some(self):
        self.assertEqual(fewest_shelves((2, 3, 4), (2, 1, 1), 7), (2, (0, 0, 1)))
        self.assertEqual(fewest_shelves((5, 5), (1, 1), 9), (2, (0, 1)))
        self.assertEqual(fewest_shelves((5, 5), (1, 1), 10), (1, (0, 0)))
        self.assertEqual(fewest_shelves((1,), (9,), 9), (1, (0,)))

    def test_the_first_shelf_is_left_where_more_would_be_needed(self):
        # 3 and 3 on one shelf would leave 5 and 5 for two more.
        self.assertEqual(fewest_shelves((3, 3, 5, 5), (1, 1, 1, 1), 8), (2, (0, 1, 0, 1)))
        self.assertEqual(fewest_shelves((2, 5, 4, 3, 6), (1, 1, 1, 1, 1), 10), (2, (0, 0, 1, 0, 1)))

    def test_a_shelf_as_wide_as_a_title_and_just_too_narrow(self):
        self.assertEqual(fewest_shelves((4, 3), (2, 1), 8), (2, (0, 1)))
        self.assertEqual(fewest_shelves((4, 2), (2, 4), 8), (2, (0, 1)))
        self.assertEqual(fewest_shelves((8,), (1,), 8), (1, (0,)))
        self.assertEqual(fewest_shelves((4, 3), (2, 1), 11), (1, (0, 0)))
        self.assertEqual(fewest_shelves((4, 3), (2, 1), 10), (2, (0, 1)))

    def test_drawn_titles_against_all_ways(self):
        drawn = random.Random(141)
        for _ in range(300):
            titles = drawn.randint(1, 5)
            copies = [1] * titles
            for _ in range(drawn.randint(0, 9 - titles)):
                copies[drawn.randrange(titles)] += 1
            thicknesses = tuple(drawn.randint(1, 9) for _ in range(titles))
            sizes = [thickness * many for thickness, many in zip(thicknesses, copies)]
            width = drawn.randint(max(sizes), max(sizes) + sum(sizes) // 2)
            told = fewest_shelves(thicknesses, tuple(copies), width)
            self.assertEqual(told, fewest_by_trying(thicknesses, copies, width), (thicknesses, copies, width))
            self.assertTrue(plain(told))

    def test_eight_titles_with_nine_copies(self):
        drawn = random.Random(142)
        for width in (20, 21, 25, 33, 200):
            thicknesses = tuple(drawn.randint(3, 10) for _ in range(8))
            copies = (1, 1, 1, 2, 1, 1, 1, 1)
            begun = time.monotonic()
            many, numbers = fewest_shelves(thicknesses, copies, width)
            self.assertLess(time.monotonic() - begun, 2)
            self.assertGreaterEqual(many * width, sum(a * b for a, b in zip(thicknesses, copies)))
            self.assertEqual(many, max(numbers) + 1)
            for shelf in range(many):
                self.assertLessEqual(sum(a * b for a, b, k in zip(thicknesses, copies, numbers) if k == shelf), width)
        self.assertEqual(fewest_shelves((6, 5, 4, 3, 3, 4, 5, 6), (1,) * 8, 9), (4, (0, 1, 1, 0, 2, 3, 3, 2)))

    def test_no_error_somewhat_beyond(self):
        begun = time.monotonic()
        self.assertEqual(fewest_shelves((2, 3) * 6, (1,) * 12, 5)[0], 6)
        self.assertLess(time.monotonic() - begun, 5)
        self.assertEqual(fewest_shelves((), (), 5), (0, ()))
        self.assertEqual(fewest_shelves((2, 9), (1, 0), 3), (1, (0, 0)))


class Refused(unittest.TestCase):
    def refused(self, thicknesses, copies, width):
        with self.assertRaises(BadArgument) as caught:
            fewest_shelves(thicknesses, copies, width)
        self.assertIs(type(caught.exception), BadArgument)
        self.assertEqual(caught.exception.reason, "title")

    def test_titles_that_have_no_room(self):
        self.refused((4, 3), (2, 1), 7)
        self.refused((3, 4), (1, 2), 7)
        self.refused((8,), (1,), 7)
        self.refused((1,), (9,), 8)
        self.refused((2, 3, 4), (2, 1, 3), 11)
        self.refused((5, 5), (1, 2), 9)

    def test_each_title_by_itself(self):
        for width in range(4, 14):
            if width < 12:
                self.refused((4, 4), (3, 1), width)
            else:
                self.assertEqual(fewest_shelves((4, 4), (3, 1), width), (2, (0, 1)))
