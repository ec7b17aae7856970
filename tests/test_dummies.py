import unittest
from itertools import combinations

from gathersheets.dummies import dummy, map_of, read_dummy
from gathersheets.folding import fold, sheet_size
from tests.samples import ALL_FOLDINGS, BEYOND, OTHER_THINGS, SOME_FOLDINGS, plain

ONE = "fold the left half over (1 by 1, 2 leaves)"


class Dummies(unittest.TestCase):
    def test_one_fold(self):
        self.assertEqual(dummy("L"), ONE)
        self.assertEqual(dummy("R"), "fold the right half over (1 by 1, 2 leaves)")
        self.assertEqual(dummy("T"), "fold the top half over (1 by 1, 2 leaves)")
        self.assertEqual(dummy("B"), "fold the bottom half over (1 by 1, 2 leaves)")

    def test_several_folds(self):
        self.assertEqual(dummy("TLL"), "fold the top half over (4 by 1, 2 leaves)\n"
                                       "fold the left half over (2 by 1, 4 leaves)\n"
                                       "fold the left half over (1 by 1, 8 leaves)")
        self.assertTrue(dummy("LT").startswith("fold the left half over (1 by 2, 2 leaves)\n"))
        self.assertTrue(dummy("BRBRB").startswith("fold the bottom half over (4 by 4, 2 leaves)\n"))
        self.assertTrue(dummy("BRBRB").endswith("\nfold the bottom half over (1 by 1, 32 leaves)"))

    def test_each_is_read_back(self):
        texts = {dummy(folding): folding for folding in ALL_FOLDINGS}
        self.assertEqual(len(texts), len(ALL_FOLDINGS))
        for text, folding in texts.items():
            self.assertEqual(read_dummy(text), folding)

    def test_another_writing(self):
        for text in [ONE + "\n", "\n" + ONE, ONE + " ", " " + ONE, ONE.upper(), ONE.replace(" ", "  "),
                     ONE.replace("(", ""), ONE.replace(")", ""), ONE + ".", ONE.replace(",", ";"),
                     ONE.replace("1 by", "01 by"), ONE.replace("leaves", "leafs"), ONE.replace("by", "x"),
                     ONE.replace("half ", ""), "Fold" + ONE[4:], "fold the left half over", "L", "", "\n",
                     dummy("TL").replace("\n", "\r\n"), dummy("TL").replace("\n", "\n\n"),
                     dummy("TL").replace("\n", " "), dummy("TL").replace("\n", ""), ONE.replace("left", "upper")]:
            self.assertIsNone(read_dummy(text), text)

    def test_a_wrong_number(self):
        self.assertIsNone(read_dummy("fold the left half over (1 by 1, 3 leaves)"))
        self.assertIsNone(read_dummy("fold the left half over (2 by 1, 2 leaves)"))
        for folding in SOME_FOLDINGS:
            text = dummy(folding)
            for place, sign in enumerate(text):
                if sign.isdigit():
                    for other in "0123456789".replace(sign, ""):
                        self.assertIsNone(read_dummy(text[:place] + other + text[place + 1:]))

    def test_lines_left_out_doubled_or_exchanged(self):
        for folding in ALL_FOLDINGS:
            lines = dummy(folding).split("\n")
            for place in range(len(lines)):
                self.assertIsNone(read_dummy("\n".join(lines[:place] + lines[place + 1:])))
                self.assertIsNone(read_dummy("\n".join(lines[:place + 1] + lines[place:])))
            for first, second in combinations(range(len(lines)), 2):
                changed = list(lines)
                changed[first], changed[second] = changed[second], changed[first]
                self.assertIsNone(read_dummy("\n".join(changed)))

    def test_one_to_five_lines(self):
        for folding in BEYOND:
            text = dummy(folding)
            self.assertEqual(len(text.split("\n")), len(folding))
            self.assertIsNone(read_dummy(text))

    def test_other_things(self):
        for thing in OTHER_THINGS:
            self.assertIsNone(read_dummy(thing))


class Maps(unittest.TestCase):
    def test_some(self):
        self.assertEqual(map_of("L"), ((-1, 2),))
        self.assertEqual(map_of("R"), ((2, -1),))
        self.assertEqual(map_of("T"), ((-1,), (2,)))
        self.assertEqual(map_of("TL"), ((2, -3), (-1, 4)))

    def test_leaves_and_faces_of_all_panels(self):
        for folding in ALL_FOLDINGS + BEYOND:
            grid = map_of(folding)
            columns, rows = sheet_size(folding)
            self.assertEqual([len(row) for row in grid], [columns] * rows)
            for number, (column, row, face, _) in enumerate(fold(folding), 1):
                self.assertEqual(grid[row][column], number if face == "front" else -number)
            self.assertTrue(plain(grid))
