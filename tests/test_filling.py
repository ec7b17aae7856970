import unittest

from gathersheets.filling import fillings


class Fillings(unittest.TestCase):
    def test_some(self):
        self.assertEqual(fillings((), 3, 9), [((), ())])
        self.assertEqual(fillings((2,), 3, 9), [((0,), (2,))])
        self.assertEqual(fillings((2, 3), 3, 9), [((0, 0), (5,)), ((0, 1), (2, 3))])

    def test_room_and_places(self):
        self.assertEqual(fillings((2, 3), 3, 4), [((0, 1), (2, 3))])
        self.assertEqual(fillings((2, 3), 3, 5), [((0, 0), (5,)), ((0, 1), (2, 3))])
        self.assertEqual(fillings((2, 3), 1, 5), [((0, 0), (5,))])
        self.assertEqual(fillings((2, 3), 1, 4), [])
        self.assertEqual(fillings((2,), 0, 9), [])

    def test_of_ways_with_the_same_loads_the_first_one(self):
        self.assertEqual(fillings((1, 1, 2), 2, 9), [((0, 0, 0), (4,)), ((0, 0, 1), (2, 2)), ((0, 1, 0), (3, 1))])
