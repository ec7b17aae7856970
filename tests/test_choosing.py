import random
import unittest
from itertools import combinations_with_replacement

from gathersheets.choosing import cheapest_sheets, fewest_sheets, standard
from tests.samples import plain

STANDARD = {1: "L", 2: "TL", 3: "LTL", 4: "TLTL", 5: "LTLTL"}


def pages_of(lengths):
    return sum(2 << length for length in lengths)


def fewest_of_all(pages, most):
    """The lengths of h1, longest first, out of all choices of sheets."""
    best = None
    for many in range(1, -(-pages // 4) + 1):
        for lengths in combinations_with_replacement(range(most, 0, -1), many):
            if pages_of(lengths) >= pages:
                key = (pages_of(lengths) - pages, many)
                if best is None or key < best[0]:
                    best = (key, lengths)
                elif key == best[0]:
                    raise AssertionError("h1 would not tell one choice")
    return best[1]


def cheapest_of_all(pages, costs):
    """The lengths of h2 and their cost, out of all choices of which no sheet can be left out."""
    best = None
    for many in range(1, -(-pages // 4) + 1):
        for lengths in combinations_with_replacement(range(5, 0, -1), many):
            if pages_of(lengths) >= pages:
                cost = sum(costs[length - 1] for length in lengths)
                key = (cost, pages_of(lengths) - pages, many, tuple(-length for length in lengths))
                if best is None or key < best:
                    best = key
    return tuple(-length for length in best[3]), best[0]


def told(lengths):
    return tuple(STANDARD[length] for length in lengths)


class Standard(unittest.TestCase):
    def test_all(self):
        for folds, folding in STANDARD.items():
            self.assertEqual(standard(folds), folding)

    def test_no_error_somewhat_beyond(self):
        standard(0)
        standard(6)


class Fewest(unittest.TestCase):
    def test_some(self):
        self.assertEqual(fewest_sheets(10, 3), ("TL", "L"))
        self.assertEqual(fewest_sheets(1, 5), ("L",))
        self.assertEqual(fewest_sheets(4, 5), ("L",))
        self.assertEqual(fewest_sheets(5, 5), ("TL",))
        self.assertEqual(fewest_sheets(5, 1), ("L", "L"))
        self.assertEqual(fewest_sheets(64, 5), ("LTLTL",))
        self.assertEqual(fewest_sheets(64, 4), ("TLTL", "TLTL"))
        self.assertEqual(fewest_sheets(61, 4), ("TLTL", "TLTL"))
        self.assertEqual(fewest_sheets(60, 4), ("TLTL", "LTL", "TL", "L"))

    def test_more_than_eight_sheets(self):
        self.assertEqual(fewest_sheets(33, 1), ("L",) * 9)
        self.assertEqual(fewest_sheets(500, 1), ("L",) * 125)
        self.assertEqual(fewest_sheets(500, 5), ("LTLTL",) * 7 + ("TLTL", "LTL", "L"))

    def test_out_of_all_choices(self):
        for most in range(1, 6):
            for pages in range(1, 41):
                self.assertEqual(fewest_sheets(pages, most), told(fewest_of_all(pages, most)))

    def test_up_to_500_pages(self):
        for most in range(1, 6):
            for pages in range(1, 501):
                lengths = [len(folding) for folding in fewest_sheets(pages, most)]
                self.assertEqual(fewest_sheets(pages, most), told(lengths))
                self.assertEqual(pages_of(lengths), -(-pages // 4) * 4)
                self.assertEqual(lengths, sorted(lengths, reverse=True))
                # Two sheets of one length, but for the longest, could be one of the next length.
                for length in range(1, most):
                    self.assertLess(lengths.count(length), 2)
                self.assertLessEqual(max(lengths), most)

    def test_no_error_somewhat_beyond(self):
        self.assertEqual(fewest_sheets(64, 6), fewest_sheets(64, 5))
        self.assertEqual(fewest_sheets(0, 3), ())
        self.assertEqual(pages_of([len(folding) for folding in fewest_sheets(517, 3)]), 520)
        self.assertTrue(plain(fewest_sheets(10, 0)))


class Cheapest(unittest.TestCase):
    def test_some(self):
        self.assertEqual(cheapest_sheets(10, (3, 4, 9, 99, 99)), (("TL", "L"), 7))
        self.assertEqual(cheapest_sheets(16, (3, 4, 8, 99, 99)), (("LTL",), 8))
        self.assertEqual(cheapest_sheets(1, (5, 4, 3, 2, 1)), (("LTLTL",), 1))
        self.assertEqual(cheapest_sheets(1, (1, 1, 1, 1, 1)), (("L",), 1))
        self.assertEqual(cheapest_sheets(64, (1, 2, 4, 8, 16)), (("LTLTL",), 16))
        self.assertEqual(cheapest_sheets(20, (9, 2, 3, 9, 9)), (("LTL", "TL"), 5))

    def test_fewest_blanks_ahead_of_fewest_sheets(self):
        self.assertEqual(cheapest_sheets(12, (2, 2, 4, 99, 99)), (("TL", "L"), 4))

    def test_fewest_sheets_of_as_many_blanks(self):
        self.assertEqual(cheapest_sheets(8, (1, 2, 9, 99, 99)), (("TL",), 2))

    def test_longest_first(self):
        self.assertEqual(cheapest_sheets(28, (2, 3, 5, 99, 99)), (("LTL", "TL", "L"), 10))
        self.assertEqual(cheapest_sheets(24, (1, 5, 3, 99, 99)), (("LTL", "L", "L"), 5))

    def test_out_of_all_choices(self):
        drawn = random.Random(7)
        for pages in list(range(1, 30)) + [33, 40, 44, 47, 48]:
            for top in (2, 3, 6, 20):
                for _ in range(6):
                    costs = tuple(drawn.randint(1, top) for _ in range(5))
                    lengths, cost = cheapest_of_all(pages, costs)
                    self.assertEqual(cheapest_sheets(pages, costs), (told(lengths), cost), (pages, costs))

    def test_up_to_200_pages(self):
        drawn = random.Random(8)
        for pages in range(1, 201):
            costs = tuple(drawn.randint(1, 40) for _ in range(5))
            foldings, cost = cheapest_sheets(pages, costs)
            lengths = [len(folding) for folding in foldings]
            self.assertEqual(foldings, told(lengths))
            self.assertGreaterEqual(pages_of(lengths), pages)
            self.assertEqual(lengths, sorted(lengths, reverse=True))
            self.assertEqual(cost, sum(costs[length - 1] for length in lengths))
            self.assertLessEqual(cost, sum(costs[len(f) - 1] for f in fewest_sheets(pages, 5)))
            self.assertEqual(cost, least_cost(-(-pages // 4), costs))

    def test_no_error_somewhat_beyond(self):
        self.assertEqual(cheapest_sheets(0, (1, 1, 1, 1, 1)), ((), 0))
        foldings, cost = cheapest_sheets(260, (1, 2, 3, 4, 5))
        self.assertEqual((pages_of([len(folding) for folding in foldings]), cost), (260, 21))


def least_cost(units, costs):
    if units <= 0:
        return 0
    least = [0]
    for many in range(1, units + 1):
        least.append(min(least[max(0, many - (1 << k))] + costs[k] for k in range(5)))
    return least[units]
