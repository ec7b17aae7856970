import random
import time
import unittest
from itertools import combinations, permutations

from gathersheets.errors import BadArgument
from gathersheets.swaps import fewest_swaps, is_swap_plan, swap_plan
from tests.samples import OTHER_THINGS, plain


def swapped(pile, first, second):
    told = list(pile)
    told[first], told[second] = told[second], told[first]
    return tuple(told)


def made(pile, plan):
    for first, second in plan:
        pile = swapped(pile, first, second)
    return pile


def distances(sheets):
    """For each pile the fewest swaps that make the right one, by trying all swaps."""
    right = tuple(range(sheets))
    told = {right: 0}
    edge = [right]
    while edge:
        behind = []
        for pile in edge:
            for first, second in combinations(range(sheets), 2):
                other = swapped(pile, first, second)
                if other not in told:
                    told[other] = told[pile] + 1
                    behind.append(other)
        edge = behind
    return told


def cycle_count(pile):
    seen, told = set(), 0
    for place in range(len(pile)):
        if place not in seen:
            told += 1
        while place not in seen:
            seen.add(place)
            place = pile[place]
    return told


class Fewest(unittest.TestCase):
    def test_some(self):
        self.assertEqual(fewest_swaps((2, 0, 1, 3)), 2)
        self.assertEqual(fewest_swaps((0,)), 0)
        self.assertEqual(fewest_swaps((1, 0)), 1)
        self.assertEqual(fewest_swaps((3, 2, 1, 0)), 2)
        self.assertEqual(fewest_swaps((1, 2, 3, 4, 0)), 4)

    def test_all_piles_of_up_to_seven_sheets(self):
        for sheets in range(1, 8):
            told = distances(sheets)
            self.assertEqual(len(told), len(list(permutations(range(sheets)))))
            for pile, many in told.items():
                self.assertEqual(fewest_swaps(pile), many, pile)
                self.assertEqual(sheets - cycle_count(pile), many)

    def test_twenty_four_sheets(self):
        drawn = random.Random(81)
        for _ in range(100):
            pile = tuple(drawn.sample(range(24), 24))
            begun = time.monotonic()
            told = fewest_swaps(pile)
            self.assertLess(time.monotonic() - begun, 1)
            self.assertEqual(told, 24 - cycle_count(pile))


class Plans(unittest.TestCase):
    def test_some(self):
        self.assertEqual(swap_plan((2, 0, 1, 3)), ((0, 1), (1, 2)))
        self.assertEqual(swap_plan((0, 1, 2)), ())
        self.assertEqual(swap_plan((1, 0, 3, 2)), ((0, 1), (2, 3)))
        self.assertEqual(swap_plan((1, 2, 0)), ((0, 2), (1, 2)))
        self.assertEqual(swap_plan((0, 3, 2, 1)), ((1, 3),))

    def test_each_swap_puts_the_least_wrong_place_right(self):
        drawn = random.Random(82)
        piles = [pile for sheets in range(1, 7) for pile in permutations(range(sheets))]
        piles += [tuple(drawn.sample(range(many), many)) for many in range(7, 25) for _ in range(10)]
        for pile in piles:
            plan = swap_plan(pile)
            self.assertTrue(plain(plan))
            now = pile
            for swap in plan:
                wrong = [place for place in range(len(pile)) if now[place] != place]
                self.assertEqual(swap, (wrong[0], now.index(wrong[0])))
                self.assertLess(swap[0], swap[1])
                now = swapped(now, *swap)
            self.assertEqual(now, tuple(range(len(pile))))
            self.assertEqual(len(plan), fewest_swaps(pile))
            self.assertIs(is_swap_plan(pile, plan), True)

    def test_all_plans_of_few_swaps(self):
        swaps = list(combinations(range(4), 2))
        plans = [()] + [(a,) for a in swaps] + [(a, b) for a in swaps for b in swaps]
        plans += [(a, b, c) for a in swaps for b in swaps for c in swaps]
        for pile in permutations(range(4)):
            fewest = fewest_swaps(pile)
            for plan in plans:
                right = made(pile, plan) == (0, 1, 2, 3)
                self.assertIs(is_swap_plan(pile, plan), right)
                if right:
                    self.assertGreaterEqual(len(plan), fewest)

    def test_plans_with_more_swaps_than_the_fewest(self):
        self.assertTrue(is_swap_plan((0, 1, 2), ((0, 1), (0, 1))))
        self.assertTrue(is_swap_plan((1, 0), ((0, 1),) * 61))
        self.assertFalse(is_swap_plan((1, 0), ((0, 1),) * 60))

    def test_plans_that_do_not_put_it_right(self):
        for plan in ((), ((0, 1),), ((1, 2), (0, 1)), ((0, 1), (1, 2), (0, 1)), ((0, 1), (1, 2), (2, 3))):
            self.assertIs(is_swap_plan((2, 0, 1, 3), plan), False, plan)

    def test_swaps_that_are_none(self):
        for plan in (((1, 0),), ((0, 0), (0, 1)), ((0, 1), (1, 1)), ((0, 2),), ((-2, 1),), ((-2, -1),), ((0, -1),), ((-1, 0),),
                     ((0, 1, 1),), ((0,),), ((),), ((0, 1), (1, 0), (0, 1)), ((0, 1), (2, 3)), (0, 1)):
            self.assertIs(is_swap_plan((1, 0), plan), False, plan)

    def test_other_kinds(self):
        for thing in OTHER_THINGS + [[(0, 1)], ([0, 1],), ("01",), (("0", "1"),), ((0, "1"),), ((0, None),), ((0.5, 1),),
                                     {(0, 1)}, {(0, 1): 1}, "01", b"01", (b"01",), ((0, 1), None), (((0, 1),),)]:
            self.assertIs(is_swap_plan((1, 0), thing), False, thing)
            if thing != ():
                self.assertIs(is_swap_plan((0, 1), thing), False, thing)


class Refused(unittest.TestCase):
    PILES = [(), (1,), (2,), (-1,), (0, 0), (1, 1), (0, 2), (1, 2), (0, 1, 3), (0, 1, 1), (-1, 0), (-1, 0, 1), (0, 23),
             (5, 0, 1, 2, 3), tuple(range(1, 25)), tuple(range(23)) + (22,), (0,) * 24, tuple(range(25)),
             tuple(range(24, -1, -1)), tuple(range(30))]

    def test_piles_that_have_not_each_sheet_once(self):
        for pile in self.PILES:
            for call in (lambda: fewest_swaps(pile), lambda: swap_plan(pile), lambda: is_swap_plan(pile, ()),
                         lambda: is_swap_plan(pile, ((0, 1),)), lambda: is_swap_plan(pile, None)):
                with self.assertRaises(BadArgument) as caught:
                    call()
                self.assertIs(type(caught.exception), BadArgument)
                self.assertEqual(caught.exception.reason, "pile", pile)

    def test_the_greatest_pile_is_not_refused(self):
        self.assertEqual(fewest_swaps(tuple(range(24))), 0)
        self.assertEqual(fewest_swaps(tuple(range(23, -1, -1))), 12)
