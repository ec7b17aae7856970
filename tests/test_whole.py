"""What the document promises over the whole program, ahead of its parts."""

import random
import unittest
from itertools import product

from gathersheets.collation import misplaced
from gathersheets.errors import BadDeed
from gathersheets.folding import find_folding, fold
from gathersheets.imposition import impose, locate_page, reads_on
from gathersheets.jobs import Job
from gathersheets.looks import look_number, looks, looks_right, pair_of_rows
from gathersheets.orders import most_copies, order_list
from gathersheets.spoilage import good_sheets, required
from tests.samplejobs import drawn_deed
from tests.samples import ALL_FOLDINGS


def folded_pages(folding, layout):
    """The pages of a layout as they are read off the folded sheet, and whether each is the right way up."""
    grids = {"front": layout[0], "back": layout[1]}
    other = {"front": "back", "back": "front"}
    told = []
    for column, row, face, head in fold(folding):
        for side in (face, other[face]):
            cell = grids[side][row][column]
            told.append((abs(cell), (cell > 0) == (head == "up")))
    return told


class Promises(unittest.TestCase):
    def test_no_two_foldings_have_the_same_stack(self):
        stacks = {tuple(leaf[:2] for leaf in fold(folding)): folding for folding in ALL_FOLDINGS}
        self.assertEqual(len(stacks), len(ALL_FOLDINGS))
        for stack, folding in stacks.items():
            self.assertEqual(find_folding(stack), folding)

    def test_a_folded_sheet_shows_its_pages_in_their_order_the_right_way_up(self):
        for folding in ALL_FOLDINGS:
            pages = 2 * 2 ** len(folding)
            layout = impose(folding)
            self.assertEqual(folded_pages(folding, layout), [(page, True) for page in range(1, pages + 1)])
            self.assertTrue(reads_on(folding, layout))
            self.assertEqual(locate_page(folding, 1)[0], fold(folding)[0][2])

    def test_what_an_order_requires_is_enough_and_one_sheet_less_is_not(self):
        drawn = random.Random(161)
        for _ in range(300):
            stages = tuple((drawn.randint(0, 60), drawn.randint(2, 40)) for _ in range(drawn.randint(0, 6)))
            copies = drawn.randint(1, 5000)
            sheets = required(stages, copies)
            self.assertGreaterEqual(good_sheets(stages, sheets), copies)
            self.assertLess(good_sheets(stages, sheets - 1), copies)
            orders = (stages, ())
            needed, reams, left = order_list(orders, copies, 500)
            self.assertEqual(needed, (sheets, copies))
            self.assertEqual(500 * reams - left, sheets + copies)
            self.assertGreaterEqual(most_copies(orders, sheets + copies), copies)
            self.assertLess(most_copies(orders, sheets + copies - 1), copies)

    def test_of_all_piles_that_look_right_the_right_one_is_told_apart_just_if_the_marks_are_enough(self):
        for sheets in range(1, 6):
            right = tuple(range(sheets))
            for steps in range(1, 8):
                alike = [pile for pile in product(range(sheets), repeat=sheets)
                         if misplaced(pile, sheets, steps) is None]
                self.assertIn(right, alike)
                self.assertEqual(alike == [right], steps >= sheets)
                self.assertEqual(look_number(sheets, steps), len(alike))
                self.assertEqual(list(looks(sheets, steps, 60)), alike[:60])
            for most in range(1, 6):
                pair = pair_of_rows(sheets, most)
                if pair is not None:
                    alike = [pile for pile in product(range(sheets), repeat=sheets) if looks_right(pile, sheets, pair)]
                    self.assertEqual(alike, [right])

    def test_whatever_a_job_is_led_through_no_sheet_is_lost(self):
        drawn = random.Random(162)
        for number in range(100):
            sheets = number % 8 + 1
            job = Job(sheets, drawn.randint(1, 20))
            started = [[0] * sheets]
            for step in range(80):
                deed = ("start", step, 9) if step < sheets else drawn_deed(drawn, sheets, 4)
                try:
                    job.do(deed)
                    started.append(list(started[-1]))
                    if deed[0] == "start":
                        started[-1][deed[1]] += deed[2]
                except BadDeed:
                    if drawn.random() < 0.3 and job.undo():
                        started.pop()
                self.assertEqual([sum(counts) + sum(job.copies()) for counts in job.counts()], started[-1])
