import unittest

from gathersheets.errors import BadArgument, BadBook, BadDeed, BadJournal, BadText, BinderError

KINDS = {BadBook: ("reason",), BadArgument: ("reason",), BadText: ("line", "reason"),
         BadDeed: ("reason",), BadJournal: ("place",)}


class Errors(unittest.TestCase):
    def test_base_of_all_is_a_value_error(self):
        self.assertTrue(issubclass(BinderError, ValueError))
        self.assertIsNot(BinderError, ValueError)

    def test_all_derive_from_the_base_and_none_from_another(self):
        for kind in KINDS:
            self.assertTrue(issubclass(kind, BinderError))
            for other in KINDS:
                self.assertEqual(issubclass(kind, other), kind is other)

    def test_fields(self):
        for kind, names in KINDS.items():
            values = [7, "spine"][:len(names)]
            told = kind(*values)
            self.assertEqual([getattr(told, name) for name in names], values)
            named = kind(**dict(zip(names, values)))
            self.assertEqual([getattr(named, name) for name in names], values)

    def test_fields_have_the_order_of_the_interface(self):
        told = BadText(3, "not a line")
        self.assertEqual((told.line, told.reason), (3, "not a line"))

    def test_each_can_be_caught_as_the_base(self):
        for kind, names in KINDS.items():
            with self.assertRaises(BinderError):
                raise kind(*range(len(names)))
