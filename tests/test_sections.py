import unittest

from gathersheets.sections import fewest_sections, most_leaves
from tests.samples import plain


def parted(leaves, most):
    """Leaves laid pair by pair on the sections in turn, as few sections as hold them."""
    many = 1
    while many * most < leaves:
        many += 1
    sections = [0] * many
    for pair in range(leaves // 2):
        sections[pair % many] += 2
    return tuple(sections)


class Fewest(unittest.TestCase):
    def test_some(self):
        self.assertEqual(fewest_sections(20, 8), (8, 6, 6))
        self.assertEqual(fewest_sections(8, 8), (8,))
        self.assertEqual(fewest_sections(10, 8), (6, 4))
        self.assertEqual(fewest_sections(2, 2), (2,))
        self.assertEqual(fewest_sections(6, 2), (2, 2, 2))
        self.assertEqual(fewest_sections(2, 200), (2,))
        self.assertEqual(fewest_sections(200, 198), (100, 100))

    def test_all_numbers_of_leaves(self):
        for leaves in range(2, 201, 2):
            for most in list(range(2, 41, 2)) + [64, 98, 100, 102, 198, 200, 202, 1000]:
                told = fewest_sections(leaves, most)
                self.assertEqual(told, parted(leaves, most), (leaves, most))
                self.assertEqual(sum(told), leaves)
                self.assertLessEqual(max(told), most)
                self.assertGreaterEqual(min(told), 2)
                self.assertLessEqual(max(told) - min(told), 2)
                self.assertEqual(told, tuple(sorted(told, reverse=True)))
                self.assertLess((len(told) - 1) * most, leaves)
                self.assertTrue(plain(told))

    def test_no_error_somewhat_beyond(self):
        self.assertEqual(fewest_sections(0, 8), ())
        self.assertEqual(fewest_sections(204, 100), (68, 68, 68))
        self.assertEqual(sum(fewest_sections(4, 0)), 4)
        self.assertEqual(sum(fewest_sections(4, 1)), 4)


class Most(unittest.TestCase):
    def test_some(self):
        self.assertEqual(most_leaves(7, 3), 6)
        self.assertEqual(most_leaves(6, 3), 6)
        self.assertEqual(most_leaves(5, 3), 4)

    def test_a_creep_less_than_one_thickness(self):
        for creep, thickness in ((0, 1), (0, 9), (8, 9), (1, 2)):
            self.assertEqual(most_leaves(creep, thickness), 2)

    def test_the_deepest_leaf_keeps_within_the_creep(self):
        for thickness in range(1, 12):
            for creep in range(0, 60):
                leaves = most_leaves(creep, thickness)
                self.assertEqual(leaves % 2, 0)
                self.assertLessEqual((leaves // 2 - 1) * thickness, creep)
                self.assertGreater((leaves // 2) * thickness, creep)

    def test_no_error_for_a_thickness_of_nothing(self):
        self.assertIsNone(most_leaves(5, 0))
