import random
import unittest

from gathersheets.collation import faults, marks_of, misplaced
from tests.samples import plain


def steps_by_counting(steps):
    """The step of each sheet from 0 to 40: down the stairs, and again from the top."""
    told, step = [], 0
    for _ in range(41):
        told.append(step)
        step = step + 1 if step + 1 < steps else 0
    return told


def place_by_looking(pile, sheets, steps):
    """The first wrong place, looked for from the top."""
    step_of = steps_by_counting(steps)
    for place in range(max(len(pile), sheets)):
        lacks = place >= len(pile)
        too_many = place >= sheets
        if lacks or too_many or step_of[pile[place]] != step_of[place]:
            return place
    return None


def drawn_pile(drawn, most=24):
    return tuple(drawn.randint(0, 23) for _ in range(drawn.randint(0, most)))


def nearly_right(drawn, sheets, steps):
    """A pile with sheets put for others of the same step, sometimes with one more change."""
    pile = [drawn.choice([other for other in range(24) if (other - sheet) % steps == 0]) for sheet in range(sheets)]
    change = drawn.randint(0, 3)
    if change == 1:
        pile = pile[:drawn.randint(0, sheets)]
    elif change == 2:
        pile = pile + [drawn.randint(0, 23)]
    elif change == 3:
        pile[drawn.randrange(sheets)] = drawn.randint(0, 23)
    return tuple(pile[:24])


class Marks(unittest.TestCase):
    def test_some(self):
        self.assertEqual(marks_of((0, 3, 2), 2), (0, 1, 0))
        self.assertEqual(marks_of((5, 5, 23, 0), 5), (0, 0, 3, 0))
        self.assertEqual(marks_of((), 3), ())
        self.assertEqual(marks_of((7, 0, 23), 1), (0, 0, 0))
        self.assertEqual(marks_of((7, 0, 23), 24), (7, 0, 23))

    def test_all_sheets_and_steps(self):
        for steps in range(1, 25):
            self.assertEqual(marks_of(tuple(range(24)), steps), tuple(steps_by_counting(steps)[:24]))

    def test_each_sheet_has_its_mark_wherever_it_lies(self):
        drawn = random.Random(51)
        for _ in range(200):
            pile, steps = drawn_pile(drawn), drawn.randint(1, 24)
            told = marks_of(pile, steps)
            self.assertEqual(told, tuple(steps_by_counting(steps)[sheet] for sheet in pile))
            self.assertTrue(plain(told))


class Misplaced(unittest.TestCase):
    def test_some(self):
        self.assertIsNone(misplaced((0, 3, 2), 3, 2))
        self.assertIsNone(misplaced((2, 1, 0), 3, 2))
        self.assertEqual(misplaced((2, 1, 0), 3, 3), 0)
        self.assertEqual(misplaced((0, 2, 1), 3, 3), 1)
        self.assertEqual(misplaced((0, 1, 2, 5), 5, 5), 3)

    def test_right_piles(self):
        for sheets in range(1, 25):
            for steps in range(1, 25):
                self.assertIsNone(misplaced(tuple(range(sheets)), sheets, steps))

    def test_a_pile_that_ends_ahead(self):
        for steps in (1, 2, 3, 24):
            for sheets in range(1, 25):
                for many in range(sheets):
                    self.assertEqual(misplaced(tuple(range(many)), sheets, steps), many)
        self.assertEqual(misplaced((0, 0), 3, 2), 1)

    def test_a_pile_that_has_more_sheets(self):
        self.assertEqual(misplaced((0, 1, 2), 2, 3), 2)
        self.assertEqual(misplaced((0, 1, 0), 2, 2), 2)
        self.assertEqual(misplaced((0, 0, 0), 1, 1), 1)
        self.assertEqual(misplaced((1, 1, 1), 2, 2), 0)

    def test_an_empty_pile(self):
        for sheets in (1, 2, 24):
            self.assertEqual(misplaced((), sheets, 3), 0)

    def test_as_many_steps_as_sheets_and_more(self):
        for steps in (4, 5, 24):
            self.assertIsNone(misplaced((0, 1, 2, 3), 4, steps))
            self.assertEqual(misplaced((0, 1, 3, 2), 4, steps), 2)
        self.assertIsNone(misplaced((4, 1, 2, 3), 4, 4))
        self.assertEqual(misplaced((4, 1, 2, 3), 4, 5), 0)

    def test_foreign_and_doubled_sheets_with_right_marks(self):
        self.assertIsNone(misplaced((20, 21, 22), 3, 10))
        self.assertIsNone(misplaced((0, 1, 0, 1), 4, 2))

    def test_drawn_piles(self):
        drawn = random.Random(52)
        told = set()
        for _ in range(3000):
            sheets, steps = drawn.randint(1, 24), drawn.randint(1, 24)
            pile = nearly_right(drawn, sheets, steps) if drawn.random() < 0.8 else drawn_pile(drawn)
            place = misplaced(pile, sheets, steps)
            self.assertEqual(place, place_by_looking(pile, sheets, steps), (pile, sheets, steps))
            told.add(place)
        self.assertEqual(told, {None} | set(range(24)))


class Faults(unittest.TestCase):
    def test_some(self):
        self.assertEqual(faults((0, 3, 0), 3), ((1, 2), (0,), (3,)))
        self.assertEqual(faults((2, 1, 0), 3), ((), (), ()))
        self.assertEqual(faults((), 3), ((0, 1, 2), (), ()))
        self.assertEqual(faults((1, 1, 1, 0, 0), 2), ((), (0, 1), ()))
        self.assertEqual(faults((9, 4, 9, 4, 23), 2), ((0, 1), (), (4, 9, 23)))

    def test_the_last_sheet_and_the_one_behind_it(self):
        self.assertEqual(faults((23, 22), 24), (tuple(range(22)), (), ()))
        self.assertEqual(faults((23, 22), 23), (tuple(range(22)), (), (23,)))

    def test_drawn_piles(self):
        drawn = random.Random(53)
        for _ in range(1500):
            pile, sheets = drawn_pile(drawn), drawn.randint(1, 24)
            counts = [len([1 for other in pile if other == sheet]) for sheet in range(24)]
            wanted = (tuple(k for k in range(sheets) if counts[k] == 0),
                      tuple(k for k in range(sheets) if counts[k] >= 2),
                      tuple(k for k in range(sheets, 24) if counts[k] >= 1))
            told = faults(pile, sheets)
            self.assertEqual(told, wanted, (pile, sheets))
            self.assertTrue(plain(told))

    def test_a_pile_is_right_if_all_marks_differ_and_no_place_is_wrong(self):
        drawn = random.Random(54)
        for _ in range(500):
            sheets = drawn.randint(1, 24)
            pile = nearly_right(drawn, sheets, 24)
            right = pile == tuple(range(sheets))
            self.assertEqual(misplaced(pile, sheets, 24) is None, right)
            if right:
                self.assertEqual(faults(pile, sheets), ((), (), ()))


class Beyond(unittest.TestCase):
    def test_no_error_somewhat_beyond(self):
        pile = tuple(range(30))
        self.assertIsNone(misplaced(pile, 30, 27))
        self.assertEqual(marks_of((30, 24), 30), (0, 24))
        self.assertEqual(faults(pile, 29), ((), (), (29,)))
        self.assertEqual(faults((0,), 0), ((), (), (0,)))
        self.assertEqual(faults((-1, 0), 1), ((), (), (-1,)))
        self.assertEqual(misplaced((0,), 0, 3), 0)
        self.assertIsNone(misplaced((), 0, 3))

    def test_no_steps_are_no_marks(self):
        self.assertEqual(marks_of((0, 3), 0), (None, None))
        self.assertIsNone(misplaced((5, 5), 2, 0))
        self.assertEqual(misplaced((5,), 2, 0), 1)
