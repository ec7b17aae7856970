import random
import time
import unittest
from itertools import combinations, permutations

from gathersheets.errors import BadArgument
from gathersheets.washes import best_job_order, wash_cost
from tests.samples import plain

JOBS = ((0, 1), (2,), (0, 1))


def cost_by_trying(jobs, order, room):
    """The least cost over all that can lie in the press behind each job."""
    costs = {frozenset(): 0}
    for job in order:
        behind = {}
        needed = frozenset(jobs[job])
        for press, cost in costs.items():
            others = sorted(press - needed)
            for many in range(min(len(others), room - len(needed)) + 1):
                for stay in combinations(others, many):
                    now = needed | frozenset(stay)
                    behind[now] = min(behind.get(now, 999), cost + len(needed - press))
        costs = behind
    return min(costs.values())


def drawn_jobs(drawn, many, room, inks=8):
    return tuple(tuple(sorted(drawn.sample(range(inks), drawn.randint(0, min(room, inks))))) for _ in range(many))


class Cost(unittest.TestCase):
    def test_some(self):
        self.assertEqual(wash_cost(JOBS, (0, 1, 2), 2), 4)
        self.assertEqual(wash_cost(JOBS, (0, 1, 2), 3), 3)
        self.assertEqual(wash_cost(JOBS, (0, 2, 1), 2), 3)
        self.assertEqual(wash_cost(((5,),), (0,), 1), 1)
        self.assertEqual(wash_cost(((0,), (1,), (0,)), (0, 1, 2), 1), 3)
        self.assertEqual(wash_cost(((),), (0,), 1), 0)

    def test_what_is_needed_last_is_taken_out(self):
        # Taking out 0, the oldest one, would cost one more.
        self.assertEqual(wash_cost(((0,), (1,), (2,), (0,), (1,)), (0, 1, 2, 3, 4), 2), 4)
        self.assertEqual(wash_cost(((0, 1, 2), (3,), (0, 1), (2,)), (0, 1, 2, 3), 3), 5)

    def test_a_job_without_inks_takes_nothing_out(self):
        self.assertEqual(wash_cost(((3, 4), (), (3, 4)), (0, 1, 2), 2), 2)

    def test_drawn_jobs_against_all_ways(self):
        drawn = random.Random(41)
        for _ in range(400):
            room = drawn.randint(1, 4)
            jobs = drawn_jobs(drawn, drawn.randint(1, 7), room, drawn.choice((2, 4, 6, 8)))
            order = tuple(drawn.sample(range(len(jobs)), len(jobs)))
            self.assertEqual(wash_cost(jobs, order, room), cost_by_trying(jobs, order, room), (jobs, order, room))

    def test_room_for_all_costs_each_ink_once(self):
        drawn = random.Random(42)
        for _ in range(50):
            jobs = drawn_jobs(drawn, 7, 4, 4)
            used = {ink for job in jobs for ink in job}
            self.assertEqual(wash_cost(jobs, tuple(range(7)), 4), len(used))


class BestOrder(unittest.TestCase):
    def test_some(self):
        self.assertEqual(best_job_order(JOBS, 2), ((0, 2, 1), 3))
        self.assertEqual(best_job_order(JOBS, 3), ((0, 1, 2), 3))
        self.assertEqual(best_job_order(((1,), (2,), (3,)), 1), ((0, 1, 2), 3))
        self.assertEqual(best_job_order(((),), 1), ((0,), 0))
        self.assertEqual(best_job_order(((1,), (2,), (1,), (2,)), 1), ((0, 2, 1, 3), 2))

    def test_drawn_jobs_against_all_orders(self):
        drawn = random.Random(43)
        for _ in range(60):
            room = drawn.randint(1, 4)
            jobs = drawn_jobs(drawn, drawn.randint(1, 5), room, drawn.choice((3, 5, 8)))
            costs = [(cost_by_trying(jobs, order, room), order) for order in permutations(range(len(jobs)))]
            cost, order = min(costs)
            told = best_job_order(jobs, room)
            self.assertEqual(told, (order, cost), (jobs, room))
            self.assertTrue(plain(told))

    def test_seven_jobs_with_all_inks(self):
        drawn = random.Random(44)
        for room in (1, 2, 3, 4):
            jobs = tuple(tuple(sorted(drawn.sample(range(8), room))) for _ in range(7))
            begun = time.monotonic()
            told = best_job_order(jobs, room)
            self.assertLess(time.monotonic() - begun, 2)
            costs = [(wash_cost(jobs, order, room), order) for order in permutations(range(7))]
            cost, order = min(costs)
            self.assertEqual(told, (order, cost))


class Refused(unittest.TestCase):
    def test_jobs_that_need_more_than_there_is_room_for(self):
        for jobs, room in ((JOBS, 1), (((0, 1, 2, 3, 4),), 4), (((0,), (1, 2, 3)), 2), ((tuple(range(8)), (1,)), 4)):
            order = tuple(range(len(jobs)))
            for call in (lambda: wash_cost(jobs, order, room), lambda: best_job_order(jobs, room)):
                with self.assertRaises(BadArgument) as caught:
                    call()
                self.assertEqual(caught.exception.reason, "inks")

    def test_jobs_that_fill_the_press_are_not_refused(self):
        self.assertEqual(wash_cost(((0, 1, 2, 3), (4, 5, 6, 7)), (1, 0), 4), 8)
        self.assertEqual(best_job_order(((0, 1, 2, 3), (4, 5, 6, 7)), 4), ((0, 1), 8))

    def test_no_error_somewhat_beyond(self):
        self.assertEqual(best_job_order((), 2), ((), 0))
        self.assertEqual(wash_cost(((8, 9), (0, 1, 2, 3, 4)), (0, 1), 6), 7)
        self.assertEqual(best_job_order(((1,), (2,)) * 4, 1), ((0, 2, 4, 6, 1, 3, 5, 7), 2))
