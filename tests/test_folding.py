import unittest
from itertools import combinations

from gathersheets.folding import find_folding, fold, foldings, is_folding, place_of, sheet_size, states
from tests.samples import ALL_FOLDINGS, BEYOND, OTHER_THINGS, SOME_FOLDINGS, neighbours, plain


def panels_of(folding):
    return tuple(leaf[:2] for leaf in fold(folding))


def simulated(folding):
    """The states of a folding as a1 has them, with stacks kept by their places."""
    columns, rows = sheet_size(folding)
    lying = {(c, r): [(c, r, "front", "up")] for c in range(columns) for r in range(rows)}
    told = [(columns, rows, lying)]
    for letter in folding:
        columns, rows = (columns // 2, rows) if letter in "LR" else (columns, rows // 2)
        folded = {}
        for column in range(columns):
            for row in range(rows):
                over, under = {
                    "L": ((columns - 1 - column, row), (columns + column, row)),
                    "R": ((2 * columns - 1 - column, row), (column, row)),
                    "T": ((column, rows - 1 - row), (column, rows + row)),
                    "B": ((column, 2 * rows - 1 - row), (column, row)),
                }[letter]
                folded[column, row] = turned(lying[over], letter) + lying[under]
        lying = folded
        told.append((columns, rows, lying))
    return tuple(tuple(tuple(tuple(stacks[c, r]) for c in range(wide)) for r in range(high))
                 for wide, high, stacks in told)


def turned(stack, letter):
    out = []
    for column, row, face, head in stack[::-1]:
        if letter in "TB":
            head = "down" if head == "up" else "up"
        out.append((column, row, "back" if face == "front" else "front", head))
    return out


class Texts(unittest.TestCase):
    def test_foldings_of_one_to_five_letters(self):
        self.assertEqual(len(ALL_FOLDINGS), 1364)
        for text in ALL_FOLDINGS:
            self.assertIs(is_folding(text), True)

    def test_what_is_no_folding(self):
        for text in ["", "l", "LX", "L ", " L", "TL\n", "LLLLLL", "TLTLTL", "RLBTRLBT", "tl", "0", "LR,T"]:
            self.assertIs(is_folding(text), False, text)

    def test_each_sign(self):
        for sign in map(chr, range(0x250)):
            self.assertIs(is_folding(sign), sign in "LRTB", sign)
            self.assertIs(is_folding("L" + sign + "B"), sign in "LRTB", sign)

    def test_whatever_it_is(self):
        for thing in OTHER_THINGS + [("L",), ["L"], ["T", "L"], True, b"L", {"L"}, ("TL", "L")]:
            self.assertIs(is_folding(thing), thing == "TL", thing)

    def test_sheet_size(self):
        self.assertEqual(sheet_size("L"), (2, 1))
        self.assertEqual(sheet_size("B"), (1, 2))
        self.assertEqual(sheet_size("TL"), (2, 2))
        self.assertEqual(sheet_size("LRLTB"), (8, 4))
        self.assertEqual(sheet_size("TBTBT"), (1, 32))
        self.assertEqual(sheet_size("RRRRR"), (32, 1))

    def test_foldings_by_the_alphabet(self):
        self.assertEqual(foldings(1, 1), ("BL", "BR", "LB", "LT", "RB", "RT", "TL", "TR"))
        self.assertEqual(foldings(1, 0), ("L", "R"))
        self.assertEqual(foldings(0, 2), ("BB", "BT", "TB", "TT"))
        for across in range(6):
            for down in range(6 - across):
                wanted = [text for text in ALL_FOLDINGS if len(text) == across + down
                          and sum(text.count(letter) for letter in "LR") == across]
                self.assertEqual(foldings(across, down), tuple(sorted(wanted)))

    def test_no_foldings_beyond(self):
        for across, down in [(0, 0), (6, 0), (3, 3), (-1, 2), (2, -1), (40, 40)]:
            self.assertEqual(foldings(across, down), ())


class Stacks(unittest.TestCase):
    def test_one_fold(self):
        self.assertEqual(fold("L"), ((0, 0, "back", "up"), (1, 0, "front", "up")))
        self.assertEqual(fold("R"), ((1, 0, "back", "up"), (0, 0, "front", "up")))
        self.assertEqual(fold("T"), ((0, 0, "back", "down"), (0, 1, "front", "up")))
        self.assertEqual(fold("B"), ((0, 1, "back", "down"), (0, 0, "front", "up")))

    def test_two_folds(self):
        self.assertEqual(fold("TL"), ((0, 1, "back", "up"), (0, 0, "front", "down"),
                                      (1, 0, "back", "down"), (1, 1, "front", "up")))
        self.assertEqual(fold("LR"), ((3, 0, "back", "up"), (0, 0, "front", "up"),
                                      (1, 0, "back", "up"), (2, 0, "front", "up")))

    def test_states_ahead_of_and_behind_each_fold(self):
        flat = lambda c, r: ((c, r, "front", "up"),)
        self.assertEqual(states("TL"), (
            ((flat(0, 0), flat(1, 0)), (flat(0, 1), flat(1, 1))),
            ((((0, 0, "back", "down"), (0, 1, "front", "up")), ((1, 0, "back", "down"), (1, 1, "front", "up"))),),
            ((fold("TL"),),)))

    def test_all_foldings_as_a1_folds_them(self):
        for folding in ALL_FOLDINGS:
            told = states(folding)
            self.assertEqual(told, simulated(folding), folding)
            self.assertEqual(told[-1], ((fold(folding),),))

    def test_shapes_are_tuples(self):
        for folding in SOME_FOLDINGS:
            for told in (fold(folding), states(folding), sheet_size(folding), place_of(folding, (0, 0))):
                self.assertTrue(plain(told))
        self.assertTrue(plain(foldings(2, 1)))

    def test_place_of_each_panel(self):
        self.assertEqual(place_of("TL", (0, 0)), (1, "front", "down"))
        for folding in SOME_FOLDINGS:
            for number, (column, row, face, head) in enumerate(fold(folding)):
                self.assertEqual(place_of(folding, (column, row)), (number, face, head))

    def test_leaves_show_back_and_front_by_turns(self):
        for folding in ALL_FOLDINGS:
            faces = [leaf[2] for leaf in fold(folding)]
            self.assertEqual(faces, ["back", "front"] * (len(faces) // 2))

    def test_neighbours_lie_with_unlike_sides_up(self):
        for folding in ALL_FOLDINGS:
            lying = {leaf[:2]: leaf[2:] for leaf in fold(folding)}
            across, down = neighbours(*sheet_size(folding))
            for first, second in across:
                self.assertNotEqual(lying[first][0], lying[second][0])
                self.assertEqual(lying[first][1], lying[second][1])
            for first, second in down:
                self.assertNotEqual(lying[first][0], lying[second][0])
                self.assertNotEqual(lying[first][1], lying[second][1])

    def test_somewhat_beyond_five_letters(self):
        for folding in BEYOND:
            self.assertEqual(states(folding), simulated(folding))
            self.assertEqual(len(fold(folding)), 1 << len(folding))


class Finding(unittest.TestCase):
    @classmethod
    def setUpClass(cls):
        cls.table = {panels_of(folding): folding for folding in ALL_FOLDINGS}

    def told_as_in_table(self, panels):
        self.assertEqual(find_folding(panels), self.table.get(panels), panels)

    def test_no_two_foldings_have_the_same_stack(self):
        self.assertEqual(len(self.table), len(ALL_FOLDINGS))

    def test_each_stack_is_found(self):
        for panels, folding in self.table.items():
            self.assertEqual(find_folding(panels), folding)

    def test_two_panels_exchanged(self):
        for folding in SOME_FOLDINGS:
            panels = panels_of(folding)
            for first, second in combinations(range(len(panels)), 2):
                changed = list(panels)
                changed[first], changed[second] = changed[second], changed[first]
                self.told_as_in_table(tuple(changed))

    def test_exchanged_panels_can_be_another_stack(self):
        self.assertEqual(find_folding(((1, 0), (0, 0))), "R")
        self.assertIsNone(find_folding(((0, 0), (0, 1), (1, 0), (1, 1))))

    def test_panels_left_out_doubled_or_turned_round(self):
        for folding in SOME_FOLDINGS:
            panels = panels_of(folding)
            self.told_as_in_table(panels[::-1])
            self.assertIsNone(find_folding(panels + panels))
            for place in range(len(panels)):
                self.told_as_in_table(panels[:place] + panels[place + 1:])
                self.told_as_in_table(panels[:place] + panels[place:place + 1] + panels[place:])
                self.told_as_in_table(panels[:place] + panels[place - 1:place] + panels[place + 1:])

    def test_half_of_a_stack(self):
        for folding in SOME_FOLDINGS:
            panels = panels_of(folding)
            self.told_as_in_table(panels[:len(panels) // 2])
            self.told_as_in_table(panels[len(panels) // 2:])

    def test_panels_of_another_sheet(self):
        for folding in SOME_FOLDINGS:
            panels = panels_of(folding)
            for step in (-1, 1, 32, -32):
                self.assertIsNone(find_folding(tuple((c + step, r) for c, r in panels)))
                self.assertIsNone(find_folding(tuple((c, r + step) for c, r in panels)))
            self.told_as_in_table(tuple((r, c) for c, r in panels))

    def test_one_panel_alone_and_none(self):
        self.assertIsNone(find_folding(()))
        self.assertIsNone(find_folding(((0, 0),)))

    def test_stacks_of_more_than_five_folds(self):
        for folding in BEYOND:
            self.assertIsNone(find_folding(panels_of(folding)))

    def test_whatever_they_are(self):
        for thing in OTHER_THINGS:
            self.assertIsNone(find_folding(thing), thing)
        self.assertIsNone(find_folding(fold("TL")))
        self.assertIsNone(find_folding(list(panels_of("TL"))))
        self.assertIsNone(find_folding(tuple(list(panel) for panel in panels_of("TL"))))
        self.assertIsNone(find_folding(tuple((str(c), str(r)) for c, r in panels_of("TL"))))

    def test_arguments_stay_as_they_are(self):
        panels = [[0, 1], [0, 0], [1, 0], [1, 1]]
        find_folding(panels)
        self.assertEqual(panels, [[0, 1], [0, 0], [1, 0], [1, 1]])
