import random
import time
import unittest
from itertools import combinations

from gathersheets.collation import faults
from gathersheets.mending import is_mending, mending
from tests.samples import OTHER_THINGS, plain


def right_mendings(pile, sheets):
    """All right mendings, by trying all choices of places that stay."""
    told = []
    for many in range(len(pile) + 1):
        for places in combinations(range(len(pile)), many):
            stays = [pile[place] for place in places]
            if all(sheet in range(sheets) for sheet in stays) and stays == sorted(set(stays)):
                taken = tuple(place for place in range(len(pile)) if place not in places)
                told.append((taken, tuple(sheet for sheet in range(sheets) if sheet not in stays)))
    return told


def best_by_trying(pile, sheets):
    return min((len(taken) + len(put), taken, put) for taken, put in right_mendings(pile, sheets))[1:]


def made(pile, pair):
    """The pile behind a mending, the sheets that are put in at their places."""
    taken, put = pair
    return sorted([sheet for place, sheet in enumerate(pile) if place not in taken] + list(put))


class Mending(unittest.TestCase):
    def test_some(self):
        self.assertEqual(mending((0, 2, 1, 3), 4), ((1,), (2,)))
        self.assertEqual(mending((1, 1, 9), 2), ((0, 2), (0,)))
        self.assertEqual(mending((0, 1), 2), ((), ()))
        self.assertEqual(mending((), 3), ((), (0, 1, 2)))
        self.assertEqual(mending((5, 6), 3), ((0, 1), (0, 1, 2)))
        self.assertEqual(mending((2, 1, 0), 3), ((0, 1), (1, 2)))
        self.assertEqual(mending((0, 1, 2, 3), 2), ((2, 3), ()))

    def test_several_with_the_fewest(self):
        self.assertEqual(mending((0, 0, 0), 1), ((0, 1), ()))
        self.assertEqual(mending((2, 3, 0, 1), 4), ((0, 1), (2, 3)))
        self.assertEqual(mending((1, 2, 0, 1, 2), 3), ((0, 1), ()))
        self.assertEqual(mending((1, 0, 3, 2), 4), ((0, 2), (1, 3)))

    def test_a_right_pile_needs_none_and_no_other_pile_is_right(self):
        drawn = random.Random(71)
        for sheets in range(1, 25):
            self.assertEqual(mending(tuple(range(sheets)), sheets), ((), ()))
            for _ in range(5):
                pile = tuple(drawn.sample(range(24), drawn.randint(0, 24)))
                self.assertEqual(mending(pile, sheets) == ((), ()), pile == tuple(range(sheets)))

    def test_drawn_piles_against_all_choices(self):
        drawn = random.Random(72)
        for number in range(600):
            most = drawn.choice((3, 6, 9, 23))
            pile = tuple(drawn.randint(0, most) for _ in range(drawn.randint(0, 9 if number % 4 == 0 else 7)))
            sheets = drawn.randint(1, drawn.choice((4, 9, 24)))
            told = mending(pile, sheets)
            self.assertEqual(told, best_by_trying(pile, sheets), (pile, sheets))
            self.assertTrue(plain(told))

    def test_what_is_told_is_right_and_makes_the_right_pile(self):
        drawn = random.Random(73)
        for _ in range(200):
            pile = tuple(drawn.randint(0, 23) for _ in range(drawn.randint(0, 24)))
            sheets = drawn.randint(1, 24)
            pair = mending(pile, sheets)
            self.assertTrue(is_mending(pile, sheets, pair))
            self.assertEqual(made(pile, pair), list(range(sheets)))
            self.assertEqual(faults(tuple(made(pile, pair)), sheets), ((), (), ()))

    def test_twenty_four_sheets(self):
        drawn = random.Random(74)
        for _ in range(20):
            pile = tuple(drawn.sample(range(24), 24))
            begun = time.monotonic()
            mending(pile, 24)
            self.assertLess(time.monotonic() - begun, 1)
        upside_down = tuple(range(23, -1, -1))
        self.assertEqual(mending(upside_down, 24), (tuple(range(23)), tuple(range(1, 24))))

    def test_no_error_somewhat_beyond(self):
        self.assertEqual(mending((0, 1), 0), ((0, 1), ()))
        self.assertEqual(mending(tuple(range(40)), 40), ((), ()))
        self.assertEqual(mending((-1, 0), 1), ((0,), ()))


class RightOnes(unittest.TestCase):
    def test_all_pairs_for_drawn_piles(self):
        drawn = random.Random(75)
        for _ in range(40):
            sheets = drawn.randint(1, 4)
            pile = tuple(drawn.randint(0, 4) for _ in range(drawn.randint(0, 5)))
            right = set(right_mendings(pile, sheets))
            fewest = sum(map(len, mending(pile, sheets)))
            for taken in [t for k in range(7) for t in combinations(range(-1, len(pile) + 1), k)]:
                for put in [p for k in range(6) for p in combinations(range(-1, 5), k)]:
                    self.assertEqual(is_mending(pile, sheets, (taken, put)), (taken, put) in right)
                    if (taken, put) in right:
                        self.assertGreaterEqual(len(taken) + len(put), fewest)

    def test_one_with_more_than_the_fewest(self):
        pile = (0, 2, 1, 3)
        for pair in (((1,), (2,)), ((2,), (1,)), ((0, 1, 2, 3), (0, 1, 2, 3)), ((0, 1), (0, 2)), ((1, 3), (2, 3))):
            self.assertTrue(is_mending(pile, 4, pair), pair)

    def test_wrong_ones(self):
        pile = (0, 2, 1, 3)
        for pair in (((), ()), ((1,), ()), ((), (2,)), ((1,), (1,)), ((1,), (2, 4)), ((1, 1), (2,)), ((1,), (2, 2)),
                     ((2, 1), (1, 2)), ((1, 2), (2, 1)), ((1, 4), (2,)), ((-3,), (2,)), ((-1, 1), (2, 3)),
                     ((1, 7), (2,)), ((0, 1, 2, 3), (0, 1, 2, 3, 4)), ((0, 1, 2, 3), (1, 2, 3)), ((0, 1), (2,))):
            self.assertFalse(is_mending(pile, 4, pair), pair)

    def test_what_stays_must_rise(self):
        self.assertFalse(is_mending((1, 0), 2, ((), ())))
        self.assertFalse(is_mending((0, 0), 1, ((), ())))
        self.assertFalse(is_mending((2, 0), 3, ((), (1,))))
        self.assertTrue(is_mending((0, 1), 2, ((), ())))

    def test_other_kinds(self):
        pile = (0, 2, 1, 3)
        for thing in OTHER_THINGS + [
                [(1,), (2,)], ([1], [2]), ((1,), [2]), ([1], (2,)), ((1,), (2,), ()), ((1,),), ("1", "2"),
                (("1",), ("2",)), ((1,), ("2",)), ((1,), None), (None, (2,)), ((1,), (None,)), ((None,), (2,)),
                (((1,),), ((2,),)), ((1,), 2), (1, 2), {0: (1,), 1: (2,)}, ((1,), (2, "3")), ((1.5,), (2,)),
                ((1, None), (2,)), (("b", "a"), (2,)), "12", b"12", ({1}, {2})]:
            self.assertIs(is_mending(pile, 4, thing), False, thing)
            if thing != ((), ()):
                self.assertIs(is_mending((0,), 1, thing), False, thing)
        self.assertIs(is_mending(pile, 4, ((1,), (2,))), True)
