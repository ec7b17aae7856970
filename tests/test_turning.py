import random
import unittest

from gathersheets.imposition import impose
from gathersheets.turning import is_good_form, tumble_form, turn_form, two_copies
from tests.samples import ALL_FOLDINGS, BEYOND, OTHER_THINGS, SOME_FOLDINGS, plain

FORMS = {"turn": turn_form, "tumble": tumble_form}


def printed(form, way):
    """Front and back of the whole sheet, as i5 has them."""
    high, wide = len(form), len(form[0])
    if way == "turn":
        back = [[form[y][wide - 1 - x] for x in range(wide)] for y in range(high)]
    else:
        back = [[-form[high - 1 - y][x] for x in range(wide)] for y in range(high)]
    return [list(row) for row in form], back


def cut(form, way):
    def part(grid, second):
        if way == "turn":
            half = len(grid[0]) // 2
            return tuple(tuple(row[half:] if second else row[:half]) for row in grid)
        half = len(grid) // 2
        return tuple(tuple(row) for row in (grid[half:] if second else grid[:half]))
    front, back = printed(form, way)
    return tuple((part(front, second), part(back, second)) for second in (False, True))


def exchanged(layout, way):
    front, back = layout
    if way == "turn":
        return tuple(tuple(row[::-1] for row in grid) for grid in (back, front))
    return tuple(tuple(tuple(-cell for cell in row) for row in grid[::-1]) for grid in (back, front))


class Forms(unittest.TestCase):
    def test_some(self):
        self.assertEqual(turn_form("L"), ((2, 3, 4, 1),))
        self.assertEqual(tumble_form("L"), ((2, 3), (-1, -4)))
        self.assertEqual(turn_form("TL"), ((-3, -6, -5, -4), (2, 7, 8, 1)))
        self.assertEqual(tumble_form("TL"), ((-3, -6), (2, 7), (-1, -8), (4, 5)))

    def test_all_foldings(self):
        for folding in ALL_FOLDINGS + BEYOND:
            front, back = impose(folding)
            self.assertEqual(turn_form(folding), tuple(f + b[::-1] for f, b in zip(front, back)))
            below = tuple(tuple(-cell for cell in row) for row in back[::-1])
            self.assertEqual(tumble_form(folding), front + below)
            self.assertTrue(plain(turn_form(folding)) and plain(tumble_form(folding)))


class Copies(unittest.TestCase):
    def test_some(self):
        self.assertEqual(two_copies(((2, 3, 4, 1),), "turn"), ((((2, 3),), ((1, 4),)), (((4, 1),), ((3, 2),))))
        self.assertEqual(two_copies(((2, 3), (-1, -4)), "tumble"),
                         ((((2, 3),), ((1, 4),)), (((-1, -4),), ((-2, -3),))))
        self.assertEqual(two_copies(((0, 5),), "turn"), ((((0,),), ((5,),)), (((5,),), ((0,),))))
        self.assertEqual(two_copies(((0,), (5,)), "tumble"), ((((0,),), ((-5,),)), (((5,),), ((0,),))))

    def test_any_form(self):
        drawn = random.Random(5)
        for high in range(1, 9):
            for wide in range(1, 9):
                form = tuple(tuple(drawn.randint(-20, 20) for _ in range(wide)) for _ in range(high))
                for way, even in (("turn", wide), ("tumble", high)):
                    if even % 2 == 0:
                        told = two_copies(form, way)
                        self.assertEqual(told, cut(form, way))
                        self.assertTrue(plain(told))

    def test_copies_of_the_forms_of_foldings(self):
        for folding in ALL_FOLDINGS:
            for way, form_of in FORMS.items():
                first, second = two_copies(form_of(folding), way)
                self.assertEqual(first, impose(folding))
                self.assertEqual(second, exchanged(impose(folding), way))


class GoodForms(unittest.TestCase):
    def by_definition(self, folding, form, way):
        first, second = cut(form, way)
        return first == impose(folding) and second == exchanged(impose(folding), way)

    def test_a_foldings_own_form_is_good_its_own_way_alone(self):
        for folding in ALL_FOLDINGS:
            self.assertIs(is_good_form(folding, turn_form(folding), "turn"), True)
            self.assertIs(is_good_form(folding, tumble_form(folding), "tumble"), True)
            self.assertIs(is_good_form(folding, turn_form(folding), "tumble"), False)
            self.assertIs(is_good_form(folding, tumble_form(folding), "turn"), False)

    def test_forms_of_other_foldings(self):
        for folding in SOME_FOLDINGS:
            for other in SOME_FOLDINGS:
                for way, form_of in FORMS.items():
                    self.assertIs(is_good_form(folding, form_of(other), way), folding == other)

    def test_one_cell_changed(self):
        for folding in SOME_FOLDINGS:
            for way, form_of in FORMS.items():
                form = form_of(folding)
                for y, row in enumerate(form):
                    for x, cell in enumerate(row):
                        for changed in (-cell, 0, cell + 1):
                            other = form[:y] + (row[:x] + (changed,) + row[x + 1:],) + form[y + 1:]
                            self.assertIs(self.by_definition(folding, other, way), False)
                            self.assertIs(is_good_form(folding, other, way), False)

    def test_rows_and_columns_left_out_or_added(self):
        for folding in SOME_FOLDINGS:
            for way, form_of in FORMS.items():
                form = form_of(folding)
                for other in [form[1:], form[:-1], form + form[-1:], form[:-1] + ((),), tuple(r[1:] for r in form),
                              tuple(row[:-1] for row in form), tuple(row + (0,) for row in form),
                              tuple((0,) + row + (0,) for row in form), form[:-1] + (form[-1][:-1],)]:
                    self.assertIs(is_good_form(folding, other, way), False)

    def test_other_things(self):
        for way, form_of in FORMS.items():
            form = form_of("L")
            for thing in OTHER_THINGS + [list(form), [list(row) for row in form], tuple(list(row) for row in form),
                                         (form,), form[0], impose("L"), tuple(map(str, form)),
                                         tuple(tuple(str(cell) for cell in row) for row in form)]:
                self.assertIs(is_good_form("L", thing, way), False, thing)
