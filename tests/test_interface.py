"""The interface: the names, where they are defined, and the names of the arguments."""

import ast
import unittest
from pathlib import Path

from whatmovesbuy.books import Journal
from whatmovesbuy.desk import Desk
from whatmovesbuy.eager import Eager
from whatmovesbuy.judges import Retold
from whatmovesbuy.keeper import Keeper
from whatmovesbuy.lazy import Lazy
from whatmovesbuy.live import Live
from whatmovesbuy.plain import Plain, Wild
from whatmovesbuy.reduction import Down, Up

PACKAGE = Path(__file__).resolve().parent.parent / "whatmovesbuy"
ERRORS = {
    "OwnError": None, "BadSizes": "self at", "BadPages": "self at", "BadPicture": "self at", "BadRun": "self at",
    "BadOctets": "self at", "BadText": "self at", "Refused": "self value", "Broken": "self at", "NoRoom": "self size",
    "TooGreat": "self most", "NoBlock": "self handle", "NoUnit": "self value",
}
FUNCTIONS = {
    "words": {"number_octets": "number", "number_at": "octets at"},
    "sizes": {
        "check_sizes": "value", "ratios": "sizes", "need_size": "sizes value", "check_pages": "value",
        "digits": "sizes number", "check_digits": "sizes value", "number_of": "sizes row", "plus": "sizes row level",
        "minus": "sizes row level", "check_request": "sizes value", "check_requests": "sizes value",
        "sizes_octets": "sizes", "sizes_at": "octets at", "pages_octets": "pages", "pages_at": "octets at",
        "request_octets": "sizes request", "request_at": "sizes octets at", "write_requests": "sizes requests",
        "read_requests": "sizes octets",
    },
    "pictures": {
        "units": "sizes pages level", "parent": "sizes pages level place", "children": "sizes pages level place",
        "is_within": "sizes pages one other", "check_picture": "sizes pages value",
        "free_cells": "sizes pages picture", "held_cells": "sizes pages picture",
        "is_free": "sizes pages picture level place", "free_units": "sizes pages picture level",
        "holes": "sizes pages picture", "block_of": "sizes pages picture handle",
        "blocks_in": "sizes pages picture level place", "with_block": "sizes pages picture block",
        "without": "sizes pages picture handle", "picture_octets": "sizes pages picture",
        "picture_at": "sizes pages octets at",
    },
    "units": {
        "free_children": "sizes pages picture level place", "torn_units": "sizes pages picture level",
        "torn": "sizes pages picture level", "loose_levels": "sizes pages picture", "is_smooth": "sizes pages picture",
        "loose_steps": "sizes pages picture level", "hole_counts": "sizes pages picture",
        "free_digits": "sizes pages picture", "kind": "sizes pages picture",
    },
    "moves": {
        "trail": "sizes pages picture moves", "moved": "sizes pages picture moves",
        "cost": "sizes pages picture moves", "way_back": "sizes pages picture moves",
        "elsewhere": "sizes pages picture other", "least_cost": "sizes pages picture other",
        "unit_moves": "sizes pages picture level place to",
    },
    "takes": {
        "least_hole": "sizes pages picture size", "place_for": "sizes pages picture size",
        "taken": "sizes pages picture size handle", "all_taken": "sizes pages picture row",
        "is_ready": "sizes pages picture", "bar": "sizes pages picture",
    },
    "serving": {
        "step": "sizes pages picture level", "served": "sizes pages picture cells", "settled": "sizes pages picture",
        "due": "sizes pages picture", "steps": "sizes pages picture", "loosest": "sizes pages picture",
    },
    "keeper": {"least_moves": "sizes"},
    "judges": {
        "follow": "store requests", "wrong_at": "sizes pages story", "measures": "sizes pages story",
        "costs": "sizes pages story", "held_row": "sizes pages story", "refusals": "sizes pages story",
        "judged": "sizes pages cells mosts story",
    },
    "foe": {
        "arena": "sizes pages", "foe_many": "sizes pages", "foe_request": "sizes pages turn picture", "beaten": "store",
    },
    "eager": {
        "eager_need": "sizes", "eager_plan": "sizes pages", "eager_many": "sizes pages",
        "eager_request": "sizes pages picture", "eager_beaten": "store",
    },
    "gather": {
        "gather_most": "sizes level", "chosen": "sizes pages picture level", "gathered": "sizes pages picture level",
        "gather_least": "sizes pages picture", "spread": "sizes",
    },
    "lazy": {
        "lazy_bounds": "sizes pages", "lazy_many": "sizes pages", "lazy_request": "sizes pages turn picture",
        "lazy_beaten": "store",
    },
    "live": {"pages_for": "sizes cells", "pages_along": "sizes requests"},
    "game": {"keeps": "sizes pages cells moves when"},
    "books": {"opened": "octets at"},
    "meaning": {"full_amount": "sizes pages when", "above": "sizes moves", "verdict": "sizes pages moves"},
    "desk": {"read_line": "text", "write_line": "deed number", "resumed": "octets"},
}
# what may be left out
LEFT_OUT = {"taken": [None], "opened": [0], "write_line": [None]}
STORE = {"picture": "self", "take": "self size", "give": "self handle"}
# of each class: what it is made of, what may be left out there, its methods, and its attributes
CLASSES = {
    ("keeper", "Keeper"): (
        "self sizes pages picture taken", [(), 0],
        STORE | {"kind": "self", "room": "self", "waiting": "self", "settle": "self", "free_pages": "self",
                 "put_page": "self number", "drop_page": "self number"}, "sizes pages cells taken"),
    ("judges", "Retold"): ("self sizes pages story", [], STORE, "sizes pages"),
    ("plain", "Plain"): ("self sizes pages choices", [()], STORE, "sizes pages choices"),
    ("plain", "Wild"): ("self sizes pages cells choices", [()], STORE, "sizes pages cells choices"),
    ("reduction", "Down"): ("self store level", [], STORE, "store sizes pages"),
    ("reduction", "Up"): ("self sizes plain", [], STORE, "sizes plain pages level small"),
    ("eager", "Eager"): ("self sizes pages", [], STORE | {"room": "self"}, "sizes pages"),
    ("lazy", "Lazy"): ("self sizes pages", [], STORE | {"room": "self"}, "sizes pages"),
    ("live", "Live"): ("self sizes", [], STORE | {"numbers": "self", "in_use": "self"}, "sizes"),
    ("books", "Journal"): (
        "self sizes pages picture taken", [(), 0],
        STORE | {"put_page": "self number", "drop_page": "self number", "lead": "self record", "records": "self",
                 "octets": "self", "folded": "self", "rewound": "self many"}, "keeper"),
    ("desk", "Desk"): ("self sizes pages", [], {"tell": "self text"}, "journal"),
}


def defined(name, kind):
    """What a file of the package itself defines, by name."""
    tree = ast.parse((PACKAGE / (name + ".py")).read_text(encoding="utf-8"))
    return {node.name: node for node in tree.body if isinstance(node, kind)}


def parameters(node):
    """The names of a function's parameters, with blanks between."""
    return " ".join(part.arg for part in node.args.args)


class Interface(unittest.TestCase):
    def test_every_row(self):
        # how many names each file has in the document's list
        told = {"errors": 13, "words": 2, "sizes": 19, "pictures": 16, "units": 9, "moves": 7, "takes": 6, "serving": 6,
                "keeper": 2, "judges": 8, "foe": 4, "plain": 2, "reduction": 2, "eager": 6, "gather": 5, "lazy": 5, "live": 3,
                "game": 1, "books": 2, "meaning": 3, "desk": 4}
        found = {name: len(functions) for name, functions in FUNCTIONS.items()} | {"errors": len(ERRORS)}
        for name, _ in CLASSES:
            found[name] = found.get(name, 0) + 1
        self.assertEqual(found, told)

    def test_functions(self):
        for name, told in FUNCTIONS.items():
            found = defined(name, ast.FunctionDef)
            for function, names in told.items():
                self.assertIn(function, found)
                self.assertEqual(parameters(found[function]), names, function)

    def test_values_that_may_be_left_out(self):
        for name, told in FUNCTIONS.items():
            found = defined(name, ast.FunctionDef)
            for function in told:
                left_out = [ast.literal_eval(node) for node in found[function].args.defaults]
                self.assertEqual(left_out, LEFT_OUT.get(function, []), function)

    def test_errors(self):
        found = defined("errors", ast.ClassDef)
        self.assertEqual(sorted(found), sorted(ERRORS))
        for name, names in ERRORS.items():
            methods = {node.name: parameters(node) for node in found[name].body if isinstance(node, ast.FunctionDef)}
            self.assertEqual(methods.get("__init__"), names, name)

    def test_classes(self):
        for (name, title), (names, left_out, told, _) in CLASSES.items():
            found = defined(name, ast.ClassDef)[title]
            methods = {node.name: node for node in found.body if isinstance(node, ast.FunctionDef)}
            for method, given in (told | {"__init__": names}).items():
                self.assertIn(method, methods)
                self.assertEqual(parameters(methods[method]), given, f"{title}.{method}")
                values = [ast.literal_eval(node) for node in methods[method].args.defaults]
                self.assertEqual(values, left_out if method == "__init__" else [], f"{title}.{method}")

    def test_attributes(self):
        made = (Keeper((1, 2), (0,)), Retold((1, 2), (0,), ()), Plain((1, 2), (0,)), Wild((1, 2), (0,), 1),
                Down(Plain((1, 2), (0,)), 0), Up((1, 2), Plain((2,), (0,))), Eager((1, 2), (0,)), Lazy((1, 2), (0,)),
                Live((1, 2)), Journal((1, 2), (0,)), Desk((1, 2), (0,)))
        self.assertEqual([type(one).__name__ for one in made], [title for _, title in CLASSES])
        for one, (_, _, _, names) in zip(made, CLASSES.values()):
            for attribute in names.split():
                self.assertIn(attribute, vars(one))


if __name__ == "__main__":
    unittest.main()
