import random
import time
import unittest
from itertools import product

from gathersheets.presses import bound, first_assignment, is_assignment, least_time, schedule, time_of
from tests.samples import OTHER_THINGS, plain

TIMES = (3, 3, 2, 2, 2)


def is_numbered(numbers):
    """Whether places are numbered by what they get first."""
    new = []
    for number in numbers:
        if number not in new:
            new.append(number)
    return new == list(range(len(new)))


def assignments(forms, presses):
    return [numbers for numbers in product(range(presses), repeat=forms) if is_numbered(numbers)]


def done_at(times, assignment):
    return max(sum(time for time, press in zip(times, assignment) if press == k) for k in set(assignment))


def drawn_times(drawn, forms):
    return tuple(drawn.randint(1, drawn.choice((3, 10, 60))) for _ in range(forms))


class Assignments(unittest.TestCase):
    def test_some(self):
        self.assertEqual((least_time(TIMES, 2), first_assignment(TIMES, 2)), (6, (0, 0, 1, 1, 1)))
        self.assertEqual((least_time((5, 1, 1), 2), first_assignment((5, 1, 1), 2)), (5, (0, 1, 1)))
        self.assertEqual((least_time((1, 1, 5), 2), first_assignment((1, 1, 5), 2)), (5, (0, 0, 1)))
        self.assertEqual((least_time((2, 1, 1, 2), 2), first_assignment((2, 1, 1, 2), 2)), (3, (0, 0, 1, 1)))

    def test_one_press(self):
        for forms in range(1, 9):
            times = tuple(range(1, forms + 1))
            self.assertEqual(first_assignment(times, 1), (0,) * forms)
            self.assertEqual(least_time(times, 1), sum(times))

    def test_more_presses_than_forms(self):
        self.assertEqual((least_time((4, 9), 4), first_assignment((4, 9), 4)), (9, (0, 1)))
        self.assertEqual((least_time((7,), 3), first_assignment((7,), 3)), (7, (0,)))
        self.assertEqual(first_assignment((1, 1, 3), 4), (0, 0, 1))

    def test_drawn_forms_against_all_assignments(self):
        drawn = random.Random(131)
        for _ in range(250):
            presses = drawn.randint(1, 4)
            times = drawn_times(drawn, drawn.randint(1, 6))
            least, first = min((done_at(times, one), one) for one in assignments(len(times), presses))
            self.assertEqual(least_time(times, presses), least, (times, presses))
            self.assertEqual(first_assignment(times, presses), first, (times, presses))
            self.assertEqual(time_of(times, first), least)
            self.assertTrue(is_assignment(times, presses, first))
            self.assertTrue(plain(first))

    def test_eight_forms_on_four_presses(self):
        drawn = random.Random(132)
        for presses in (2, 3, 4):
            times = drawn_times(drawn, 8)
            begun = time.monotonic()
            first, least = first_assignment(times, presses), least_time(times, presses)
            self.assertLess(time.monotonic() - begun, 2)
            self.assertEqual((least, first), min((done_at(times, one), one) for one in assignments(8, presses)))

    def test_no_error_somewhat_beyond(self):
        begun = time.monotonic()
        self.assertEqual(least_time((60,) * 12, 6), 120)
        self.assertEqual(first_assignment((61, 70, 80), 5), (0, 1, 2))
        self.assertLess(time.monotonic() - begun, 3)
        self.assertEqual((least_time((), 2), first_assignment((), 2), time_of((), ()), bound((), 2)), (0, (), 0, 0))
        self.assertEqual((least_time((3,), 0), first_assignment((3,), 0), bound((3,), 0)), (None, None, None))
        self.assertEqual((schedule((), ()), least_time((0, 0), 2)), ((), 0))


class Bound(unittest.TestCase):
    def test_some(self):
        self.assertEqual(bound(TIMES, 2), 6)
        self.assertEqual(bound((3, 3, 3), 2), 5)
        self.assertEqual(bound((3, 3, 4), 2), 5)
        self.assertEqual(bound((9, 1, 1), 2), 9)
        self.assertEqual(bound((1, 1, 1, 1, 1), 4), 2)
        self.assertEqual(bound((7,), 4), 7)
        self.assertEqual(bound((60,) * 8, 1), 480)

    def test_no_assignment_takes_less(self):
        drawn = random.Random(133)
        for _ in range(150):
            presses = drawn.randint(1, 4)
            times = drawn_times(drawn, drawn.randint(1, 8))
            told = bound(times, presses)
            # The least number that is not below either one.
            wanted = [k for k in range(500) if k >= max(times) and k * presses >= sum(times)][0]
            self.assertEqual(told, wanted)
            self.assertLessEqual(told, least_time(times, presses))
            if len(times) < 6:
                self.assertTrue(all(time_of(times, one) >= told for one in assignments(len(times), presses)))


class AreAssignments(unittest.TestCase):
    def test_all_tuples(self):
        for forms in range(1, 6):
            times = (5,) * forms
            for presses in (1, 2, 3, 4):
                right = set(assignments(forms, presses))
                for numbers in product(range(-1, 5), repeat=forms):
                    self.assertIs(is_assignment(times, presses, numbers), numbers in right, (presses, numbers))

    def test_too_few_and_too_many_forms(self):
        for numbers in ((), (0,), (0, 1), (0, 1, 0, 1), (0,) * 8):
            self.assertIs(is_assignment((1, 2, 3), 4, numbers), False)
        self.assertIs(is_assignment((1, 2, 3), 4, (0, 1, 0)), True)

    def test_other_kinds(self):
        things = OTHER_THINGS + [[0, 1], [0, 0], ["0", "1"], ("0", "1"), (0, None), (0, "1"), (0.5, 1), (0, 0.5), "01",
                                 b"\x00\x01", {0, 1}, {0: 0, 1: 1}, range(2), ((0,), (1,)), (0, (1,)), (0, [1]), -1, 0]
        for thing in things:
            self.assertIs(is_assignment((4, 4), 2, thing), False, thing)
            self.assertIs(is_assignment((4,), 1, thing), False, thing)


class Schedule(unittest.TestCase):
    def test_some(self):
        self.assertEqual(schedule(TIMES, (0, 0, 1, 1, 1)),
                         ((0, 0, 3), (0, 3, 6), (1, 0, 2), (1, 2, 4), (1, 4, 6)))
        self.assertEqual(schedule((5, 1, 2), (0, 1, 0)), ((0, 0, 5), (1, 0, 1), (0, 5, 7)))
        self.assertEqual(schedule((60,), (0,)), ((0, 0, 60),))
        self.assertEqual(time_of((5, 1, 2), (0, 1, 0)), 7)
        self.assertEqual(time_of((1, 5, 2), (0, 1, 0)), 5)

    def test_drawn_assignments(self):
        drawn = random.Random(134)
        for _ in range(200):
            times = drawn_times(drawn, drawn.randint(1, 6))
            assignment = drawn.choice(assignments(len(times), drawn.randint(1, 4)))
            told = schedule(times, assignment)
            self.assertTrue(plain(told))
            self.assertEqual(len(told), len(times))
            for form, (press, begins, ends) in enumerate(told):
                ahead = sum(times[other] for other in range(form) if assignment[other] == assignment[form])
                self.assertEqual((press, begins, ends), (assignment[form], ahead, ahead + times[form]))
            self.assertEqual(time_of(times, assignment), max(ends for _, _, ends in told))
            self.assertEqual(time_of(times, assignment), done_at(times, assignment))
