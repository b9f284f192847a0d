"""Each function and class of the interface is defined in the file that the interface names, with its arguments."""

import ast
import importlib
import inspect
import pathlib
import unittest

PACKAGE = pathlib.Path(__file__).resolve().parent.parent / "kindalone"
INTERFACE = {
    "kinds": {
        "is_data": ("thing",), "is_kind": ("thing",), "is_small": ("kind",), "is_handed": ("kind",),
        "is_walked": ("kind",), "arguments_of": ("kind",), "result_of": ("kind",), "opens_in": ("kind",),
    },
    "worths": {"is_worth": ("kind", "sizes", "thing"), "worths_of": ("kind", "sizes", "bound")},
    "terms": {"is_term": ("thing",)},
    "kindtexts": {"show_kind": ("kind",), "read_kind": ("text",)},
    "termtexts": {"show_term": ("term",), "read_term": ("text",)},
    "worthtexts": {"show_worth": ("worth",), "read_worth": ("text",)},
    "checking": {"kind_of": ("term", "looked", "known")},
    "filling": {"filled_kind": ("kind", "fills"), "filled_term": ("term", "fills")},
    "running": {"run": ("term", "args")},
    "settings": {"is_setting": ("thing",)},
    "ties": {
        "tied": ("kind", "setting", "one", "other"), "saying_of": ("kind",),
        "tied_by": ("saying", "setting", "one", "other"),
    },
    "cases": {"cases_of": ("kind", "setting", "bound")},
    "showing": {"shown": ("term", "looked", "setting", "bound")},
    "showchecks": {"paper_holds": ("term", "looked", "setting", "bound", "thing")},
    "tries": {"unbounded_at": ("kind", "looked"), "tries_of": ("kind", "looked", "bound")},
    "parting": {"parted": ("one", "other", "looked", "bound")},
    "alikechecks": {"alike_holds": ("one", "other", "looked", "bound", "thing")},
    "straight": {"is_straight": ("x", "y", "term")},
    "leads": {"led_by": ("term", "looked", "lead"), "led": ("term", "looked")},
    "leadchecks": {"leads_holds": ("one", "other", "looked", "thing")},
    "looks": {"leak_of": ("term", "looked", "bound")},
    "moving": {"mapped": ("kind", "maps", "worth"), "moved": ("term", "maps", "args")},
    "rounding": {"more_rounds": ("term", "by")},
    "findings": {"finding_holds": ("thing",)},
}
ERRORS = ("KindError", "TooMany", "TooMuch", "NoText", "NoKind", "NoLead", "NoName", "Taken", "Ring", "NoBack", "NoRow",
          "Unbounded", "Broken", "Used")
CLASSES = {
    ("stands", "Stand"): {
        "tell": ("name", "looked", "term"), "retell": ("name", "looked", "term"), "drop": ("name",), "back": ("many",),
        "deeds": (), "names": (), "kind": ("name",), "looked": ("name",), "whole": ("name",), "uses": ("name",),
        "made": ("name",),
    },
    ("desk", "Desk"): {"say": ("text",)},
}


def defined_in(module):
    tree = ast.parse((PACKAGE / f"{module}.py").read_text())
    return {node.name for node in tree.body if isinstance(node, (ast.FunctionDef, ast.ClassDef))}


class Interface(unittest.TestCase):
    def test_functions(self):
        for module, functions in INTERFACE.items():
            for name, arguments in functions.items():
                self.assertIn(name, defined_in(module))
                function = getattr(importlib.import_module(f"kindalone.{module}"), name)
                self.assertEqual(tuple(inspect.signature(function).parameters), arguments)

    def test_classes(self):
        for (module, name), methods in CLASSES.items():
            self.assertIn(name, defined_in(module))
            found = getattr(importlib.import_module(f"kindalone.{module}"), name)
            self.assertIsInstance(found(), found)
            for method, arguments in methods.items():
                self.assertIn(method, vars(found))
                self.assertEqual(tuple(inspect.signature(vars(found)[method]).parameters)[1:], arguments)

    def test_fields(self):
        errors = importlib.import_module("kindalone.errors")
        self.assertEqual(errors.Unbounded(3).argument, 3)
        self.assertEqual(errors.Broken("f").name, "f")
        self.assertEqual(errors.Used("f").name, "f")

    def test_errors(self):
        for name in ERRORS:
            self.assertIn(name, defined_in("errors"))


if __name__ == "__main__":
    unittest.main()
