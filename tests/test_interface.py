import importlib
import inspect
import unittest

INTERFACE = {
    "folding": {"is_folding": "text", "sheet_size": "folding", "fold": "folding", "states": "folding",
                "place_of": "folding panel", "find_folding": "panels", "foldings": "across down"},
    "creases": {"creases": "folding", "alike_foldings": "folding", "find_by_creases": "across down"},
    "edges": {"joints": "folding", "loose_leaves": "folding"},
    "dummies": {"dummy": "folding", "read_dummy": "text", "map_of": "folding"},
    "imposition": {"impose": "folding", "locate_page": "folding page", "reads_on": "folding layout"},
    "turning": {"turn_form": "folding", "tumble_form": "folding", "two_copies": "form way",
                "is_good_form": "folding form way"},
    "tickets": {"ticket_sheets": "many columns rows", "stacked": "grids"},
    "books": {"check_book": "book", "position_count": "book", "blank_count": "book", "locate": "book position",
              "position_of": "book sheet page", "layout_of": "book sheet"},
    "choosing": {"standard": "folds", "fewest_sheets": "pages most", "cheapest_sheets": "pages costs"},
    "forms": {"pages_on": "book sheet side", "plates": "book shift inks", "best_shift": "book inks"},
    "spreads": {"spreads": "book", "is_natural": "book position", "best_spread_shift": "book firsts"},
    "washes": {"wash_cost": "jobs order room", "best_job_order": "jobs room"},
    "creep": {"creep_of": "book position thickness", "widest_creep": "book thickness"},
    "sections": {"fewest_sections": "leaves most", "most_leaves": "creep thickness"},
    "sewing": {"all_along": "sections stations", "two_on": "sections stations",
               "thread_length": "sewn places rise"},
    "covers": {"bulk": "book thickness", "case": "book page thickness board hinge square turn",
               "jacket": "told hinge flap", "title_places": "height lengths"},
    "parents": {"straight_yield": "parent sheet", "cut_yield": "parent sheet",
                "best_parent": "parents prices sheet many"},
    "chapters": {"beginnings": "chapters order rule", "blanks_within": "chapters order rule",
                 "length_of": "chapters order rule", "best_order": "chapters"},
    "booktext": {"book_text": "book", "parse_book": "text", "layout_text": "layout"},
    "folios": {"folio": "page front", "read_folio": "text front", "folio_list": "layout front"},
    "spoilage": {"good_sheets": "stages sheets", "survivors": "stages sheets", "required": "stages wanted"},
    "orders": {"order_list": "orders copies ream", "most_copies": "orders paper"},
    "quotes": {"quote": "book inks copies orders prices", "best_quote": "pages copies stages prices"},
    "collation": {"marks_of": "pile steps", "misplaced": "pile sheets steps", "faults": "pile sheets"},
    "signatures": {"signature": "sheet", "read_signature": "text", "mark_at": "book position"},
    "stairs": {"picture": "pile steps", "read_picture": "text"},
    "looks": {"look_number": "sheets steps", "looks": "sheets steps most", "hidden_pairs": "sheets steps",
              "looks_right": "pile sheets rows", "pair_of_rows": "sheets most"},
    "mending": {"mending": "pile sheets", "is_mending": "pile sheets pair"},
    "swaps": {"fewest_swaps": "pile", "swap_plan": "pile", "is_swap_plan": "pile plan"},
    "days": {"course": "sheets copies works", "length": "sheets copies works"},
    "presses": {"least_time": "times presses", "first_assignment": "times presses", "time_of": "times assignment",
                "bound": "times presses", "is_assignment": "times presses assignment",
                "schedule": "times assignment"},
    "shelves": {"fewest_shelves": "thicknesses copies width"},
    "reports": {"report": "job", "book_report": "book inks thickness"},
    "journal": {"replay": "sheets copies text"},
}
ERRORS = {"BinderError": None, "BadBook": "reason", "BadArgument": "reason", "BadText": "line reason",
          "BadDeed": "reason", "BadJournal": "place"}
JOB = {"__init__": "sheets copies", "do": "deed", "undo": "", "counts": "", "copies": "", "gatherable": "",
       "shortfall": "", "waste": "", "branch": "", "journal": "", "wanted": ""}


class Interface(unittest.TestCase):
    def test_functions_are_defined_where_they_are_listed(self):
        for name, functions in INTERFACE.items():
            module = importlib.import_module("gathersheets." + name)
            for function, parameters in functions.items():
                told = getattr(module, function)
                self.assertTrue(inspect.isfunction(told))
                self.assertEqual(told.__module__, module.__name__)
                self.assertEqual(list(inspect.signature(told).parameters), parameters.split())

    def test_errors_are_defined_where_they_are_listed(self):
        module = importlib.import_module("gathersheets.errors")
        for name, parameters in ERRORS.items():
            told = getattr(module, name)
            self.assertTrue(inspect.isclass(told))
            self.assertEqual(told.__module__, module.__name__)
            if parameters is not None:
                own = vars(told)["__init__"]
                self.assertEqual(list(inspect.signature(own).parameters), ["self"] + parameters.split())

    def test_the_methods_of_a_job_are_defined_in_its_class(self):
        module = importlib.import_module("gathersheets.jobs")
        self.assertTrue(inspect.isclass(module.Job))
        self.assertEqual(module.Job.__module__, module.__name__)
        for name, parameters in JOB.items():
            own = vars(module.Job)[name]
            self.assertEqual(list(inspect.signature(own).parameters), ["self"] + parameters.split())

    def test_what_the_document_shows_ahead_of_all(self):
        from gathersheets.books import layout_of
        from gathersheets.folding import find_folding, fold
        self.assertEqual((fold("TL")[0], find_folding(((0, 1), (0, 0), (1, 0), (1, 1)))),
                         ((0, 1, "back", "up"), "TL"))
        from gathersheets.looks import look_number
        from gathersheets.spoilage import required
        self.assertEqual((layout_of((("L",), "gathered", 3), 0), required(((10, 20),), 95), look_number(4, 2)),
                         ((((2, 3),), ((1, 0),)), 109, 16))
