import random
import unittest

from gathersheets.tickets import stacked, ticket_sheets
from tests.samples import plain

SIZES = [(1, 1), (2, 1), (1, 2), (2, 2), (3, 2), (2, 3), (4, 5), (7, 1)]


def piled(grids):
    """The sheets cut into piles, the first sheet on top of each, and the pile of place 0 laid on top."""
    piles = []
    for y in range(len(grids[0])):
        for x in range(len(grids[0][0])):
            piles.append([grid[y][x] for grid in grids])
    return tuple(cell for pile in piles for cell in pile)


class Tickets(unittest.TestCase):
    def test_some(self):
        self.assertEqual(ticket_sheets(7, 2, 1), (((1, 5),), ((2, 6),), ((3, 7),), ((4, 0),)))
        self.assertEqual(ticket_sheets(8, 2, 2), (((1, 3), (5, 7)), ((2, 4), (6, 8))))
        self.assertEqual(ticket_sheets(5, 1, 2), (((1,), (4,)), ((2,), (5,)), ((3,), (0,))))
        self.assertEqual(ticket_sheets(1, 3, 2), (((1, 0, 0), (0, 0, 0)),))

    def test_each_place_as_i6_has_it(self):
        for many in list(range(1, 30)) + [99, 100, 101, 499, 500]:
            for columns, rows in SIZES:
                grids = ticket_sheets(many, columns, rows)
                self.assertTrue(plain(grids))
                self.assertEqual(len(grids), -(-many // (columns * rows)))
                for k, grid in enumerate(grids):
                    self.assertEqual([len(row) for row in grid], [columns] * rows)
                    for p in range(columns * rows):
                        ticket = p * len(grids) + k + 1
                        self.assertEqual(grid[p // columns][p % columns], ticket if ticket <= many else 0)

    def test_tickets_lie_in_their_order(self):
        for many in list(range(1, 30)) + [250, 500]:
            for columns, rows in SIZES:
                grids = ticket_sheets(many, columns, rows)
                cells = piled(grids)
                self.assertEqual(cells, tuple(range(1, many + 1)) + (0,) * (len(cells) - many))
                self.assertEqual(stacked(grids), cells)

    def test_stack_of_any_sheets(self):
        drawn = random.Random(3)
        self.assertEqual(stacked((((1, 2), (3, 4)), ((5, 6), (7, 8)))), (1, 5, 2, 6, 3, 7, 4, 8))
        for columns, rows in SIZES:
            grids = tuple(tuple(tuple(drawn.randint(-9, 9) for _ in range(columns)) for _ in range(rows))
                          for _ in range(drawn.randint(1, 6)))
            self.assertEqual(stacked(grids), piled(grids))
            self.assertTrue(plain(stacked(grids)))

    def test_no_error_somewhat_beyond(self):
        self.assertEqual(ticket_sheets(0, 2, 2), ())
        self.assertEqual(stacked(()), ())
        self.assertEqual(stacked(ticket_sheets(600, 3, 3))[:600], tuple(range(1, 601)))
