import random
import unittest

from gathersheets.sewing import all_along, thread_length, two_on
from tests.samples import plain


class AllAlong(unittest.TestCase):
    def test_some(self):
        self.assertEqual(all_along(2, 3), ((0, 1), (0, 1)))
        self.assertEqual(all_along(1, 2), ((0,),))
        self.assertEqual(all_along(3, 4), ((0, 1, 2),) * 3)

    def test_all(self):
        for sections in range(1, 20):
            for stations in range(2, 9):
                told = all_along(sections, stations)
                self.assertEqual(len(told), sections)
                for section in told:
                    self.assertEqual([(k, k + 1) for k in section],
                                     [(k, j) for k in range(stations) for j in range(stations) if j - k == 1])
                self.assertTrue(plain(told))


class TwoOn(unittest.TestCase):
    def test_some(self):
        self.assertEqual(two_on(3, 4), ((0, 2), (1,), (0, 1, 2)))
        self.assertEqual(two_on(2, 2), ((0,), ()))
        self.assertEqual(two_on(2, 3), ((0,), (1,)))
        self.assertEqual(two_on(4, 5), ((0, 2), (1, 3), (0, 2), (1, 3)))

    def test_a_section_without_a_partner_is_sewn_all_along(self):
        for stations in range(2, 9):
            self.assertEqual(two_on(1, stations), all_along(1, stations))
            self.assertEqual(two_on(7, stations)[-1:], all_along(1, stations))
            self.assertEqual(two_on(7, stations)[:6], two_on(6, stations))

    def test_the_thread_lies_by_turns_in_both_sections_of_a_pair(self):
        for sections in range(1, 20):
            for stations in range(2, 9):
                told = two_on(sections, stations)
                self.assertEqual(len(told), sections)
                self.assertTrue(plain(told))
                for first in range(0, sections - 1, 2):
                    for gap in range(stations - 1):
                        self.assertEqual(gap in told[first], gap % 2 == 0)
                        self.assertEqual(gap in told[first + 1], gap % 2 == 1)
                    for section in told[first:first + 2]:
                        self.assertEqual(section, tuple(sorted(set(section))))
                        self.assertTrue(all(0 <= gap < stations - 1 for gap in section))


class Length(unittest.TestCase):
    def test_some(self):
        self.assertEqual(thread_length(two_on(2, 3), (0, 4, 10), 3), 13)
        self.assertEqual(thread_length(all_along(2, 3), (0, 4, 10), 3), 23)
        self.assertEqual(thread_length(all_along(1, 3), (0, 4, 10), 3), 10)
        self.assertEqual(thread_length(two_on(3, 4), (5, 6, 8, 12), 10), 5 + 2 + 7 + 20)
        self.assertEqual(thread_length(two_on(2, 2), (-3, 7), 0), 10)

    def test_drawn_places(self):
        drawn = random.Random(51)
        for sections in range(1, 12):
            for stations in range(2, 9):
                places = tuple(sorted(drawn.sample(range(0, 300), stations)))
                rise = drawn.randint(0, 9)
                whole = thread_length(all_along(sections, stations), places, rise)
                self.assertEqual(whole, sections * (places[-1] - places[0]) + (sections - 1) * rise)
                paired = thread_length(two_on(sections, stations), places, rise)
                spans = sections // 2 + sections % 2
                self.assertEqual(paired, spans * (places[-1] - places[0]) + (sections - 1) * rise)
                self.assertLessEqual(paired, whole)

    def test_no_error_somewhat_beyond(self):
        self.assertEqual((all_along(0, 3), two_on(0, 3), thread_length((), (0, 4), 3)), ((), (), 0))
        self.assertEqual((all_along(2, 1), two_on(2, 1)), (((), ()), ((), ())))
        self.assertEqual(two_on(2, 10), ((0, 2, 4, 6, 8), (1, 3, 5, 7)))
