import random
import unittest
from itertools import product

from gathersheets.stairs import picture, read_picture
from tests.samples import plain


def read_by_places(text):
    """What a picture is read as, by looking at each place from the top."""
    if text.strip("#.\n") != "":
        return None
    lines = text.split("\n")
    if len({len(line) for line in lines}) != 1:
        return None
    told = []
    for signs in zip(*lines):
        marked = [step for step, sign in enumerate(signs) if sign == "#"]
        if len(marked) != 1:
            return None
        told.append(marked[0])
    return tuple(told)


class Pictures(unittest.TestCase):
    def test_some(self):
        self.assertEqual(picture((0, 3, 2), 2), "#.#\n.#.")
        self.assertEqual(picture((0, 1, 2, 3), 3), "#..#\n.#..\n..#.")
        self.assertEqual(picture((5, 5), 1), "##")
        self.assertEqual(picture((4,), 3), ".\n#\n.")

    def test_a_right_pile_shows_stairs(self):
        self.assertEqual(picture((0, 1, 2, 3, 4), 5).split("\n"), ["#....", ".#...", "..#..", "...#.", "....#"])

    def test_one_place_or_none(self):
        self.assertEqual(picture((7,), 1), "#")
        self.assertEqual(picture((), 1), "")
        self.assertEqual(picture((), 3), "\n\n")

    def test_drawn_piles_for_all_numbers_of_steps(self):
        drawn = random.Random(61)
        for steps in range(1, 25):
            for many in (0, 1, 2, 7, 24):
                pile = tuple(drawn.randint(0, 23) for _ in range(many))
                text = picture(pile, steps)
                lines = text.split("\n")
                self.assertEqual([len(line) for line in lines], [many] * steps)
                for step, line in enumerate(lines):
                    for sheet, sign in zip(pile, line):
                        self.assertEqual(sign, "#" if sheet % steps == step else ".")
                told = read_picture(text)
                self.assertEqual(told, tuple(sheet % steps for sheet in pile))
                self.assertTrue(plain(told))


class Reading(unittest.TestCase):
    def test_some(self):
        self.assertEqual(read_picture("#.#\n.#."), (0, 1, 0))
        self.assertEqual(read_picture("...\n...\n###"), (2, 2, 2))
        self.assertEqual(read_picture("##########"), (0,) * 10)

    def test_one_place_or_none(self):
        self.assertEqual(read_picture("#"), (0,))
        self.assertEqual(read_picture(".\n.\n#"), (2,))
        self.assertEqual(read_picture(""), ())
        self.assertEqual(read_picture("\n\n\n"), ())

    def test_a_place_with_no_mark_or_with_two(self):
        for text in (".", "..", "#.", ".#", "##\n.#", "#.\n..", "#\n#", "#\n.\n#", "#.#\n#.#", "#.\n.#\n.#"):
            self.assertIsNone(read_picture(text), text)

    def test_lines_of_unlike_lengths(self):
        for text in ("#\n", "\n#", "#.\n.#\n", "\n#.\n.#", "#.\n.", "#\n.#", "#\n..", "#.\n\n.#", "##\n."):
            self.assertIsNone(read_picture(text), text)

    def test_other_signs(self):
        for text in ("x", " ", "#x\n.#", "#x", "# \n.#", "#.\r\n.#", "#,\n.#", "#:\n.#", "0", "##\n. ", "*"):
            self.assertIsNone(read_picture(text), text)

    def test_all_short_texts(self):
        for many in range(7):
            for signs in product("#.\nx", repeat=many):
                text = "".join(signs)
                told = read_picture(text)
                self.assertEqual(told, read_by_places(text), repr(text))
                if told is not None and len(told) > 0:
                    self.assertEqual(picture(told, text.count("\n") + 1), text)

    def test_no_error_somewhat_beyond(self):
        self.assertEqual(picture((30, 31), 0), "")
        pile = tuple(range(40))
        self.assertEqual(read_picture(picture(pile, 40)), pile)
