import unittest

from gathersheets.folding import fold, sheet_size
from gathersheets.imposition import impose, locate_page, reads_on
from tests.samples import ALL_FOLDINGS, BEYOND, OTHER_THINGS, SOME_FOLDINGS, plain


def read_through(folding, layout):
    """The cells of a layout as the folded sheet shows them, leaf by leaf: below 0 if they stand on their head."""
    shown = []
    for column, row, face, head in fold(folding):
        front, back = layout[0][row][column], layout[1][row][column]
        way = 1 if head == "up" else -1
        shown.extend([front * way, back * way] if face == "front" else [back * way, front * way])
    return shown


def with_cell(layout, side, place, cell):
    row, column = place
    grids = [[list(cells) for cells in grid] for grid in layout]
    grids[side][row][column] = cell
    return tuple(tuple(tuple(cells) for cells in grid) for grid in grids)


class Imposition(unittest.TestCase):
    def test_some(self):
        self.assertEqual(impose("L"), (((2, 3),), ((1, 4),)))
        self.assertEqual(impose("R"), (((3, 2),), ((4, 1),)))
        self.assertEqual(impose("T"), (((-2,), (3,)), ((-1,), (4,))))
        self.assertEqual(impose("B"), (((3,), (-2,)), ((4,), (-1,))))
        self.assertEqual(impose("TL"), (((-3, -6), (2, 7)), ((-4, -5), (1, 8))))

    def test_folded_sheets_show_their_pages_in_order_the_right_way_up(self):
        for folding in ALL_FOLDINGS + BEYOND:
            layout = impose(folding)
            columns, rows = sheet_size(folding)
            for grid in layout:
                self.assertEqual([len(row) for row in grid], [columns] * rows)
            self.assertEqual(read_through(folding, layout), list(range(1, (2 << len(folding)) + 1)))
            self.assertTrue(plain(layout))

    def test_locate_some_pages(self):
        self.assertEqual(locate_page("TL", 3), ("front", 0, 0, "down"))
        self.assertEqual(locate_page("L", 1), ("back", 0, 0, "up"))
        self.assertEqual(locate_page("L", 4), ("back", 1, 0, "up"))
        self.assertEqual(locate_page("T", 2), ("front", 0, 0, "down"))

    def test_each_page_is_where_it_is_located(self):
        for folding in ALL_FOLDINGS + BEYOND:
            layout = dict(zip(("front", "back"), impose(folding)))
            for page in range(1, (2 << len(folding)) + 1):
                side, column, row, head = locate_page(folding, page)
                self.assertEqual(layout[side][row][column], page if head == "up" else -page)

    def test_no_error_for_pages_beyond(self):
        for page in (-1, 0, 9, 10, 100):
            self.assertIsNone(locate_page("TL", page))


class ReadingOn(unittest.TestCase):
    def test_the_imposition_reads_on(self):
        for folding in ALL_FOLDINGS:
            self.assertIs(reads_on(folding, impose(folding)), True)

    def test_no_other_layout_reads_on(self):
        layouts = {folding: impose(folding) for folding in SOME_FOLDINGS}
        for folding in SOME_FOLDINGS:
            for other, layout in layouts.items():
                self.assertIs(reads_on(folding, layout), other == folding)

    def test_one_cell_changed(self):
        for folding in SOME_FOLDINGS:
            layout = impose(folding)
            columns, rows = sheet_size(folding)
            for side in (0, 1):
                for place in [(row, column) for row in range(rows) for column in range(columns)]:
                    cell = layout[side][place[0]][place[1]]
                    for changed in (-cell, 0, cell + 1, 1000, None, "2", [cell], (cell,)):
                        self.assertIs(reads_on(folding, with_cell(layout, side, place, changed)), False)

    def test_grids_exchanged_left_out_or_doubled(self):
        for folding in SOME_FOLDINGS:
            front, back = impose(folding)
            for layout in [(back, front), (front,), (front, front), (back, back), (front, back, back), (),
                           (front, ()), ((), back), (front[::-1], back[::-1]) if len(front) > 1 else (),
                           (front, back[:-1]), (front + front, back), (front, back + ((),)),
                           (front[:-1] + (front[-1][:-1],), back), (front, back[:-1] + (back[-1] + (0,),))]:
                self.assertIs(reads_on(folding, layout), False)

    def test_other_things_in_place_of_a_layout(self):
        front, back = impose("L")
        for thing in OTHER_THINGS + [[front, back], (list(front), list(back)), "front", (front, None),
                                     (([2, 3],), ([1, 4],)), {0: front, 1: back}, front]:
            self.assertIs(reads_on("L", thing), False, thing)
