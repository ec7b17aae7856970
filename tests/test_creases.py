import unittest

from gathersheets.creases import alike_foldings, creases, find_by_creases
from gathersheets.folding import sheet_size, states
from tests.samples import ALL_FOLDINGS, BEYOND, SOME_FOLDINGS, neighbours, plain, where


def told_by_states(folding):
    """The creases as r1 has them: by the sides that lie on one another when they are folded."""
    told = [where(state) for state in states(folding)]
    columns, rows = sheet_size(folding)
    across, down = [dict.fromkeys(pairs) for pairs in neighbours(columns, rows)]
    for pairs in (across, down):
        for first, second in pairs:
            step = min(k for k in range(len(told)) if told[k][first][:2] == told[k][second][:2])
            faces = [told[step - 1][first][2], told[step - 1][second][2]]
            assert faces[0] == faces[1]
            pairs[first, second] = "V" if faces == ["front", "front"] else "M"
    return (tuple("".join(across[(c, r), (c + 1, r)] for c in range(columns - 1)) for r in range(rows)),
            tuple("".join(down[(c, r), (c, r + 1)] for c in range(columns)) for r in range(rows - 1)))


class Creases(unittest.TestCase):
    def test_some(self):
        self.assertEqual(creases("L"), (("V",), ()))
        self.assertEqual(creases("R"), (("V",), ()))
        self.assertEqual(creases("T"), (("", ""), ("V",)))
        self.assertEqual(creases("TL"), (("M", "V"), ("VV",)))
        self.assertEqual(creases("BL"), (("V", "M"), ("VV",)))
        self.assertEqual(creases("LT"), (("V", "V"), ("MV",)))
        self.assertEqual(creases("LL"), (("MVV",), ()))
        self.assertEqual(creases("RL"), (("VVM",), ()))

    def test_all_foldings_as_r1_has_them(self):
        for folding in ALL_FOLDINGS:
            self.assertEqual(creases(folding), told_by_states(folding), folding)

    def test_first_fold_makes_valleys_alone(self):
        for folding in ALL_FOLDINGS:
            across, down = creases(folding)
            columns, rows = sheet_size(folding)
            if folding[0] in "LR":
                self.assertEqual({row[columns // 2 - 1] for row in across}, {"V"})
            else:
                self.assertEqual(set(down[rows // 2 - 1]), {"V"})

    def test_somewhat_beyond_five_letters(self):
        for folding in BEYOND:
            self.assertEqual(creases(folding), told_by_states(folding))

    def test_shapes_are_tuples(self):
        for folding in SOME_FOLDINGS:
            self.assertTrue(plain(creases(folding)))
            self.assertTrue(plain(alike_foldings(folding)))


class Alike(unittest.TestCase):
    @classmethod
    def setUpClass(cls):
        cls.table = {}
        for folding in ALL_FOLDINGS:
            cls.table.setdefault(creases(folding), []).append(folding)

    def test_some(self):
        self.assertEqual(alike_foldings("LL"), ("LL", "LR"))
        self.assertEqual(alike_foldings("LR"), ("LL", "LR"))
        self.assertEqual(alike_foldings("TB"), ("TB", "TT"))

    def test_all_alike_ones_are_told(self):
        for told, alike in self.table.items():
            self.assertEqual(find_by_creases(*told), tuple(sorted(alike)))
            for folding in alike:
                self.assertEqual(alike_foldings(folding), tuple(sorted(alike)))

    def test_turning_the_last_letter_gives_an_alike_one(self):
        other = {"L": "R", "R": "L", "T": "B", "B": "T"}
        for folding in ALL_FOLDINGS:
            alike = alike_foldings(folding)
            self.assertIn(folding, alike)
            self.assertIn(folding[:-1] + other[folding[-1]], alike)

    def test_one_crease_turned(self):
        for folding in SOME_FOLDINGS:
            across, down = creases(folding)
            for number, row in enumerate(across):
                for place in range(len(row)):
                    changed = across[:number] + (self.turned(row, place),) + across[number + 1:]
                    self.told_as_in_table(changed, down)
            for number, row in enumerate(down):
                for place in range(len(row)):
                    changed = down[:number] + (self.turned(row, place),) + down[number + 1:]
                    self.told_as_in_table(across, changed)

    def turned(self, row, place):
        return row[:place] + ("M" if row[place] == "V" else "V") + row[place + 1:]

    def told_as_in_table(self, across, down):
        self.assertEqual(find_by_creases(across, down), tuple(sorted(self.table.get((across, down), []))))

    def test_all_creases_of_small_sheets(self):
        letters = "VM"
        for one in letters:
            for two in letters:
                self.told_as_in_table((one, two), ("VV",))
                self.told_as_in_table((one, two), ("VM",))
                self.told_as_in_table((one, two), ("MV",))
                for three in letters:
                    self.told_as_in_table((one + two + three,), ())
                    self.told_as_in_table(("",) * 4, (one, two, three))

    def test_creases_that_no_folding_has(self):
        for across, down in [((), ()), (("",), ()), (("M",), ()), (("VV",), ()), (("VVVV",), ()), (("V",), ("V",)),
                             (("V", "V"), ()), (("V", ""), ("VV",)), (("M", "V"), ("V",)), (("M", "V"), ("VVV",)),
                             (("X",), ()), (("XVX",), ()), (("v",), ()), ((), ("V",)), (("", ""), ()),
                             (("", "", ""), ("V", "V")), (("VVM", "V"), ("VV",)), (("V V",), ()), (("",), ("V",))]:
            self.assertEqual(find_by_creases(across, down), (), (across, down))
        for folding in BEYOND:
            self.assertEqual(find_by_creases(*creases(folding)), ())

    def test_other_things_in_place_of_tuples_of_texts(self):
        for across, down in [(["V"], ()), (("V",), []), (None, ()), ((), None), ((1,), ()), ("V", ())]:
            self.assertEqual(find_by_creases(across, down), ())
