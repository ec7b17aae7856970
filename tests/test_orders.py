import random
import time
import unittest

from gathersheets.orders import most_copies, order_list
from gathersheets.spoilage import good_sheets
from tests.samples import plain
from tests.test_spoilage import drawn_stages, one_by_one

ORDERS = (((10, 20),), ())


def drawn_orders(drawn, most=8):
    return tuple(drawn_stages(drawn) for _ in range(drawn.randint(1, most)))


def needed_by_trying(stages, copies):
    """The least number of sheets of which so many come out, counted one by one."""
    out = one_by_one(stages, 30 * copies + 400)
    return out[copies - 1] + 1 if copies > 0 else 0


class Lists(unittest.TestCase):
    def test_some(self):
        self.assertEqual(order_list(ORDERS, 95, 50), ((109, 95), 5, 46))
        self.assertEqual(order_list(((),), 100, 50), ((100,), 2, 0))
        self.assertEqual(order_list(((),), 101, 50), ((101,), 3, 49))
        self.assertEqual(order_list(((), (), ()), 7, 1), ((7, 7, 7), 21, 0))
        self.assertEqual(order_list(((), ()), 1, 1000), ((1, 1), 1, 998))

    def test_drawn_orders(self):
        drawn = random.Random(121)
        for _ in range(200):
            orders, copies, ream = drawn_orders(drawn), drawn.randint(1, 5000), drawn.randint(1, 1000)
            needed, reams, left = told = order_list(orders, copies, ream)
            self.assertTrue(plain(told))
            self.assertEqual(len(needed), len(orders))
            for sheets, stages in zip(needed, orders):
                self.assertGreaterEqual(good_sheets(stages, sheets), copies)
                self.assertLess(good_sheets(stages, sheets - 1), copies)
            self.assertEqual(reams * ream - sum(needed), left)
            self.assertTrue(0 <= left < ream)

    def test_sheets_counted_one_by_one(self):
        drawn = random.Random(122)
        for _ in range(20):
            orders = tuple(stages[:2] for stages in drawn_orders(drawn, 4))
            copies = drawn.randint(1, 60)
            self.assertEqual(order_list(orders, copies, 10)[0],
                             tuple(needed_by_trying(stages, copies) for stages in orders))

    def test_no_error_somewhat_beyond(self):
        self.assertEqual(order_list(ORDERS, 0, 50), ((0, 0), 0, 0))
        self.assertEqual(order_list((), 10, 50), ((), 0, 0))
        self.assertIsNone(order_list(ORDERS, 5, 0))
        self.assertIsNone(order_list((((0, 1),),), 5, 50))
        self.assertEqual(order_list(((),) * 10, 5001, 1001), ((5001,) * 10, 50, 40))


class Most(unittest.TestCase):
    def test_some(self):
        self.assertEqual(most_copies(ORDERS, 204), 95)
        self.assertEqual(most_copies(ORDERS, 203), 94)
        self.assertEqual(most_copies(((),), 77), 77)
        self.assertEqual(most_copies(((), (), ()), 20), 6)

    def test_no_paper(self):
        self.assertEqual(most_copies(ORDERS, 0), 0)
        self.assertEqual(most_copies(((),), 0), 0)
        self.assertEqual(most_copies((((1000, 2),),), 1000), 0)
        self.assertEqual(most_copies((((1000, 2),),), 1001), 1)

    def test_paper_for_more_than_all_copies(self):
        self.assertEqual(most_copies(((),), 4999), 4999)
        self.assertEqual(most_copies(((),), 5000), 5000)
        self.assertEqual(most_copies(((),), 50000), 5000)

    def test_one_copy_more_needs_more_paper(self):
        drawn = random.Random(123)
        for _ in range(200):
            orders, paper = drawn_orders(drawn), drawn.choice((50000, drawn.randint(0, 50000), drawn.randint(0, 900)))
            told = most_copies(orders, paper)
            self.assertTrue(0 <= told <= 5000)
            if told > 0:
                self.assertLessEqual(sum(order_list(orders, told, 1)[0]), paper)
            if told < 5000:
                self.assertGreater(sum(order_list(orders, told + 1, 1)[0]), paper)

    def test_the_greatest_inputs(self):
        begun = time.monotonic()
        self.assertEqual(most_copies(((),) * 8, 50000), 5000)
        told = most_copies((((1000, 1000),) * 6,) * 8, 50000)
        self.assertLess(time.monotonic() - begun, 2)
        # 6250 sheets of each: behind six times 1000 for makeready, and 1 + 2 + 3 + 4 + 5 on the way.
        self.assertEqual(told, 235)

    def test_no_error_somewhat_beyond(self):
        self.assertEqual(most_copies(ORDERS, -5), 0)
        self.assertEqual(most_copies((), 10), 5000)
        self.assertEqual(most_copies((((0, 1),),), 10), 0)
