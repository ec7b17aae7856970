import unittest

from gathersheets.signatures import mark_at, read_signature, signature
from tests.samplebooks import book_list, bound_pages

LETTERS = [letter for letter in "ABCDEFGHIJKLMNOPQRSTUVWXYZ" if letter not in "JVW"]
ALL_SIGNATURES = [letter * many for many in (1, 2, 3, 4) for letter in LETTERS]


class Signatures(unittest.TestCase):
    def test_some(self):
        told = [signature(sheet) for sheet in (0, 8, 9, 19, 20, 22, 23, 24, 91)]
        self.assertEqual(told, ["A", "I", "K", "U", "X", "Z", "AA", "BB", "ZZZZ"])

    def test_all_sheets(self):
        self.assertEqual([signature(sheet) for sheet in range(92)], ALL_SIGNATURES)

    def test_all_are_read_back(self):
        for sheet, text in enumerate(ALL_SIGNATURES):
            self.assertEqual(read_signature(text), sheet)

    def test_letters_that_the_alphabet_lacks(self):
        for letter in "JVW":
            for many in (1, 2, 3, 4):
                self.assertIsNone(read_signature(letter * many))
            self.assertNotIn(letter, "".join(map(signature, range(92))))

    def test_texts_that_are_none(self):
        for text in ("", " ", "A ", " A", "a", "aa", "Aa", "AB", "BA", "AAB", "ABA", "ABAB", "A2", "1", "0", "-",
                     "A\n", "A A", "AAAA ", "\u0410", "None"):
            self.assertIsNone(read_signature(text), text)

    def test_sheets_behind_the_last_one(self):
        # 91 is the last sheet that has a signature, so longer texts are none.
        for text in ("AAAAA", "BBBBB", "ZZZZZ", "AAAAAA", "A" * 99):
            self.assertIsNone(read_signature(text), text)

    def test_no_error_somewhat_beyond(self):
        self.assertEqual([signature(sheet) for sheet in (92, 93, 115)], ["AAAAA", "BBBBB", "AAAAAA"])
        self.assertEqual(signature(-1), "")


class Marks(unittest.TestCase):
    def test_some(self):
        book = (("TL",), "gathered", 8)
        self.assertEqual([mark_at(book, k) for k in range(1, 9)], ["A", "", "A2", "", "", "", "", ""])
        self.assertEqual([mark_at((("L",), "gathered", 1), k) for k in range(1, 5)], ["A", "", "", ""])

    def test_gathered_and_inset(self):
        gathered = (("L", "TL"), "gathered", 10)
        self.assertEqual([mark_at(gathered, k) for k in range(1, 13)], ["A", "", "", "", "B", "", "B2"] + [""] * 5)
        inset = (("L", "TL"), "inset", 10)
        self.assertEqual([mark_at(inset, k) for k in range(1, 13)], ["A", "", "B", "", "B2"] + [""] * 7)

    def test_the_tenth_leaf_and_the_last_one_that_is_marked(self):
        book = (("L", "LTLTL"), "gathered", 3)
        self.assertEqual(mark_at(book, 4 + 1), "B")
        self.assertEqual(mark_at(book, 4 + 17), "B9")
        self.assertEqual(mark_at(book, 4 + 19), "B10")
        self.assertEqual(mark_at(book, 4 + 31), "B16")
        self.assertEqual([mark_at(book, k) for k in (4 + 20, 4 + 32, 4 + 33, 4 + 63)], [""] * 4)

    def test_all_positions_of_all_books(self):
        for book in book_list():
            foldings, binding, _ = book
            for position, (sheet, page) in enumerate(bound_pages(foldings, binding), 1):
                wanted = ""
                leaves = 2 ** len(foldings[sheet])
                for leaf in range(leaves // 2):
                    if page == 2 * leaf + 1:
                        wanted = "ABCDEFGH"[sheet] + ("" if leaf == 0 else str(leaf + 1))
                self.assertEqual(mark_at(book, position), wanted, (book, position))

    def test_each_sheet_has_as_many_marks_as_half_its_leaves(self):
        for book in book_list():
            foldings, binding, _ = book
            marks = [mark_at(book, k) for k in range(1, len(bound_pages(foldings, binding)) + 1)]
            told = [mark for mark in marks if mark != ""]
            self.assertEqual(len(told), sum(2 ** len(folding) // 2 for folding in foldings))
            self.assertEqual(len(set(told)), len(told))

    def test_positions_that_the_book_has_not(self):
        for position in (-1, 0, 9, 10, 99):
            self.assertEqual(mark_at((("TL",), "gathered", 8), position), "")
