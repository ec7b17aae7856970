import unittest

from gathersheets.edges import joints, loose_leaves
from gathersheets.folding import fold, sheet_size, states
from tests.samples import ALL_FOLDINGS, BEYOND, SOME_FOLDINGS, neighbours, plain, where

MADE = {"L": "left", "R": "right", "T": "top", "B": "bottom"}
EXCHANGED = {"LR": {"left": "right", "right": "left"}, "TB": {"top": "bottom", "bottom": "top"}}


def edge_by_states(folding, told, first, second):
    """Where a crease comes to lie as g1 has it: what is turned over shows its other side."""
    step = min(k for k in range(len(told)) if told[k][first][:2] == told[k][second][:2])
    edge = MADE[folding[step - 1]]
    for k in range(step, len(folding)):
        if told[k][first][2] != told[k + 1][first][2]:
            edge = EXCHANGED["LR" if folding[k] in "LR" else "TB"].get(edge, edge)
    return edge


def joints_by_states(folding):
    told = [where(state) for state in states(folding)]
    leaves = {leaf[:2]: number for number, leaf in enumerate(fold(folding))}
    found = []
    for pairs in neighbours(*sheet_size(folding)):
        for first, second in pairs:
            edge = edge_by_states(folding, told, first, second)
            low, high = sorted((leaves[first], leaves[second]))
            found.append((low, high, edge))
    return tuple(sorted(found))


class Edges(unittest.TestCase):
    def test_some_joints(self):
        self.assertEqual(joints("L"), ((0, 1, "left"),))
        self.assertEqual(joints("R"), ((0, 1, "right"),))
        self.assertEqual(joints("T"), ((0, 1, "top"),))
        self.assertEqual(joints("B"), ((0, 1, "bottom"),))
        self.assertEqual(joints("TL"), ((0, 1, "top"), (0, 3, "left"), (1, 2, "left"), (2, 3, "top")))
        self.assertEqual(joints("LL"), ((0, 1, "right"), (0, 3, "left"), (1, 2, "left")))
        self.assertEqual(joints("LT"), ((0, 1, "left"), (0, 3, "top"), (1, 2, "top"), (2, 3, "left")))

    def test_all_foldings_as_g1_has_them(self):
        for folding in ALL_FOLDINGS:
            self.assertEqual(joints(folding), joints_by_states(folding), folding)

    def test_each_crease_is_told_once_with_the_lesser_leaf_first(self):
        for folding in SOME_FOLDINGS:
            columns, rows = sheet_size(folding)
            told = joints(folding)
            self.assertEqual(len(set(told)), (columns - 1) * rows + columns * (rows - 1))
            self.assertEqual(list(told), sorted(told))
            self.assertTrue(all(low < high for low, high, _ in told))
            self.assertTrue(plain(told))

    def test_paper_does_not_cross_at_an_edge(self):
        for folding in SOME_FOLDINGS:
            told = joints(folding)
            for low, high, edge in told:
                for first, second, other in told:
                    if edge == other:
                        self.assertFalse(low < first < high < second)

    def test_some_loose_leaves(self):
        self.assertEqual(loose_leaves("L"), ())
        self.assertEqual(loose_leaves("R"), (0, 1))
        self.assertEqual(loose_leaves("T"), (0, 1))
        self.assertEqual(loose_leaves("LT"), ())
        self.assertEqual(loose_leaves("LR"), (0, 1))

    def test_loose_leaves_have_no_joint_at_the_left(self):
        for folding in ALL_FOLDINGS:
            held = {leaf for joint in joints_by_states(folding) if joint[2] == "left" for leaf in joint[:2]}
            told = loose_leaves(folding)
            self.assertEqual(told, tuple(leaf for leaf in range(1 << len(folding)) if leaf not in held))
            self.assertTrue(plain(told))

    def test_last_fold_at_the_left_holds_all_leaves(self):
        for folding in ALL_FOLDINGS:
            if folding.endswith("L"):
                many = 1 << len(folding)
                told = joints(folding)
                self.assertEqual(loose_leaves(folding), ())
                for leaf in range(many // 2):
                    self.assertIn((leaf, many - 1 - leaf, "left"), told)

    def test_somewhat_beyond_five_letters(self):
        for folding in BEYOND:
            self.assertEqual(joints(folding), joints_by_states(folding))
            self.assertTrue(plain(loose_leaves(folding)))
