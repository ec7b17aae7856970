import random
import time
import unittest
from itertools import product

from gathersheets.days import course, length
from tests.samples import plain


def course_by_hand(sheets, copies, works):
    """A course in which each single sheet goes from pile to pile, looked at day by day."""
    piles = [[(copy, sheet) for copy in range(copies) for sheet in range(sheets)], [], [], []]
    passed = [[0] * sheets for _ in range(3)]
    bound, told = 0, []
    while bound < copies:
        morning = [list(pile) for pile in piles]
        ready = min(len([1 for _, sheet in morning[3] if sheet == k]) for k in range(sheets))
        day = []
        for work in range(3):
            there = [[item for item in morning[work] if item[1] == k] for k in range(sheets)]
            many = 0
            while many < works[work] and any(there):
                fewest = min(passed[work][k] for k in range(sheets) if there[k])
                sheet = [k for k in range(sheets) if there[k] and passed[work][k] == fewest][0]
                item = there[sheet].pop(0)
                piles[work].remove(item)
                piles[work + 1].append(item)
                passed[work][sheet] += 1
                many += 1
            day.append(many)
        binding = min(ready, works[3])
        for sheet in range(sheets):
            for _ in range(binding):
                piles[3].remove([item for item in piles[3] if item[1] == sheet][0])
        bound += binding
        told.append((*day, binding))
    return tuple(told)


class Course(unittest.TestCase):
    def test_some(self):
        self.assertEqual(course(2, 2, (3, 9, 9, 9)),
                         ((3, 0, 0, 0), (1, 3, 0, 0), (0, 1, 3, 0), (0, 0, 1, 1), (0, 0, 0, 1)))
        self.assertEqual(course(1, 1, (1, 1, 1, 1)), ((1, 0, 0, 0), (0, 1, 0, 0), (0, 0, 1, 0), (0, 0, 0, 1)))
        self.assertEqual(course(1, 3, (2, 1, 5, 5)),
                         ((2, 0, 0, 0), (1, 1, 0, 0), (0, 1, 1, 0), (0, 1, 1, 1), (0, 0, 1, 1), (0, 0, 0, 1)))

    def test_works_so_great_that_all_is_done_in_a_day(self):
        for sheets, copies in ((1, 1), (8, 125), (5, 200), (1, 200)):
            all_sheets = sheets * copies
            wanted = ((all_sheets, 0, 0, 0), (0, all_sheets, 0, 0), (0, 0, all_sheets, 0), (0, 0, 0, copies))
            self.assertEqual(course(sheets, copies, (1000, 1000, 1000, 1000)), wanted)
            self.assertEqual(course(sheets, copies, (all_sheets, all_sheets, all_sheets, copies)), wanted)
            self.assertEqual(length(sheets, copies, (1000, 1000, 1000, 1000)), 4)

    def test_what_has_come_today_waits_until_tomorrow(self):
        self.assertEqual(course(1, 2, (1, 9, 9, 9))[:2], ((1, 0, 0, 0), (1, 1, 0, 0)))

    def test_sheets_are_taken_by_turns(self):
        # By turns the first copy can be bound on the day behind the one that folds its last sheet.
        self.assertEqual([day[3] for day in course(3, 2, (9, 9, 1, 9))], [0, 0, 0, 0, 0, 1, 0, 0, 1])

    def test_binding_takes_as_many_as_it_can(self):
        self.assertEqual([day[3] for day in course(1, 5, (9, 9, 9, 2))], [0, 0, 0, 2, 2, 1])

    def test_few_sheets_with_all_small_works(self):
        for works in product((1, 2, 3, 4), (1, 2, 3, 5), (1, 2, 3, 4), (1, 2)):
            for sheets, copies in ((1, 3), (2, 3), (3, 4), (5, 2)):
                self.assertEqual(course(sheets, copies, works), course_by_hand(sheets, copies, works))

    def test_drawn_courses_day_by_day(self):
        drawn = random.Random(121)
        for number in range(150):
            sheets = number % 8 + 1
            copies = drawn.randint(1, 12)
            works = tuple(drawn.randint(1, drawn.choice((2, 5, 20, 100))) for _ in range(4))
            told = course(sheets, copies, works)
            self.assertEqual(told, course_by_hand(sheets, copies, works), (sheets, copies, works))
            self.assertEqual(length(sheets, copies, works), len(told))
            self.assertTrue(plain(told))

    def test_some_with_very_many_copies(self):
        for sheets, copies, works in ((8, 200, (301, 97, 150, 13)), (3, 200, (7, 9, 8, 2)), (1, 200, (3, 50, 2, 1))):
            self.assertEqual(course(sheets, copies, works), course_by_hand(sheets, copies, works))

    def test_all_is_done_and_no_day_does_more_than_its_works(self):
        drawn = random.Random(122)
        for _ in range(40):
            sheets, copies = drawn.randint(1, 8), drawn.randint(1, 200)
            works = tuple(drawn.randint(20, 1000) for _ in range(4))
            told = course(sheets, copies, works)
            self.assertEqual([sum(day[k] for day in told) for k in range(4)], [sheets * copies] * 3 + [copies])
            self.assertTrue(all(0 <= day[k] <= works[k] for day in told for k in range(4)))
            self.assertGreater(told[-1][3], 0)

    def test_the_greatest_course(self):
        begun = time.monotonic()
        told = course(8, 200, (1, 1, 1, 1))
        self.assertLess(time.monotonic() - begun, 3)
        # A sheet goes through each day, and the last copy is bound behind its last sheet.
        self.assertEqual(len(told), 8 * 200 + 3)
        self.assertEqual(length(8, 200, (1, 1, 1, 1)), 1603)
        self.assertEqual(told[:1600], tuple((1, int(day > 0), int(day > 1), int(day > 9 and day % 8 == 2))
                                            for day in range(1600)))

    def test_no_error_somewhat_beyond(self):
        self.assertEqual((course(3, 0, (1, 1, 1, 1)), length(3, 0, (1, 1, 1, 1))), ((), 0))
        self.assertEqual(length(9, 201, (2000, 2000, 2000, 2000)), 4)
        for works in ((0, 1, 1, 1), (1, 0, 1, 1), (1, 1, 0, 1), (1, 1, 1, 0), (1, -1, 1, 1)):
            self.assertIsNone(course(2, 2, works))
            self.assertIsNone(length(2, 2, works))
        self.assertIsNone(course(0, 2, (1, 1, 1, 1)))
        self.assertEqual((course(2, 0, (0, 1, 1, 1)), length(0, 0, (1, 1, 1, 1))), ((), 0))
