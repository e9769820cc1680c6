"""The interface: the names, where they are defined, and the names of the arguments."""

import ast
import unittest
from pathlib import Path

PACKAGE = Path(__file__).resolve().parent.parent / "whatmovesbuy"
ERRORS = {
    "OwnError": None, "BadSizes": "self at", "BadPages": "self at", "BadPicture": "self at", "BadRun": "self at",
    "BadOctets": "self at", "BadText": "self at", "Refused": "self value", "Broken": "self at", "NoRoom": "self size",
    "TooGreat": "self most", "NoBlock": "self handle", "NoUnit": "self value",
}
FUNCTIONS = {
    "words": {"number_octets": "number", "number_at": "octets at"},
    "sizes": {
        "check_sizes": "value", "ratios": "sizes", "need_size": "sizes value", "check_pages": "value",
        "digits": "sizes number", "check_digits": "sizes value", "number_of": "sizes row", "plus": "sizes row level",
        "minus": "sizes row level", "check_request": "sizes value", "check_requests": "sizes value",
        "sizes_octets": "sizes", "sizes_at": "octets at", "pages_octets": "pages", "pages_at": "octets at",
        "request_octets": "sizes request", "request_at": "sizes octets at", "write_requests": "sizes requests",
        "read_requests": "sizes octets",
    },
}


def defined(name, kind):
    """What a file of the package itself defines, by name."""
    tree = ast.parse((PACKAGE / (name + ".py")).read_text(encoding="utf-8"))
    return {node.name: node for node in tree.body if isinstance(node, kind)}


def parameters(node):
    """The names of a function's parameters, with blanks between."""
    return " ".join(part.arg for part in node.args.args)


class Interface(unittest.TestCase):
    def test_functions(self):
        for name, told in FUNCTIONS.items():
            found = defined(name, ast.FunctionDef)
            for function, names in told.items():
                self.assertIn(function, found)
                self.assertEqual(parameters(found[function]), names, function)

    def test_errors(self):
        found = defined("errors", ast.ClassDef)
        self.assertEqual(sorted(found), sorted(ERRORS))
        for name, names in ERRORS.items():
            methods = {node.name: parameters(node) for node in found[name].body if isinstance(node, ast.FunctionDef)}
            self.assertEqual(methods.get("__init__"), names, name)


if __name__ == "__main__":
    unittest.main()
