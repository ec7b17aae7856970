import unittest

from gathersheets.figures import are_integers, read_number, rounded_up
from tests.samples import OTHER_THINGS


class Figures(unittest.TestCase):
    def test_numbers(self):
        for number in list(range(0, 120)) + [999, 1000, 999999, 1000000, 10 ** 30]:
            self.assertEqual(read_number(str(number)), number)

    def test_texts_that_are_none(self):
        for text in ("", "00", "01", "0 ", " 1", "1 ", "+1", "-1", "1.0", "1_0", "a", "1a", "\u0663", "\u00b2", "1\n"):
            self.assertIsNone(read_number(text), text)

    def test_very_many_figures(self):
        self.assertEqual(read_number("1" + "0" * 5000), 10 ** 5000)

    def test_rounding_up(self):
        self.assertEqual([rounded_up(many, 3) for many in range(8)], [0, 1, 1, 1, 2, 2, 2, 3])

    def test_tuples_of_integers(self):
        for thing in ((), (0,), (-3, 5, 5), tuple(range(99))):
            self.assertIs(are_integers(thing), True)
        for thing in OTHER_THINGS + [[1], (1, "2"), (1, None), (1.0,), ((1,),), {1}]:
            self.assertIs(are_integers(thing), type(thing) is tuple and set(map(type, thing)) <= {int}, thing)
