"""The interface of the document: what exists, where it is defined, and its parameters."""

import ast
import inspect
import unittest
from importlib import import_module
from pathlib import Path

import scaleways

ERRORS = {
    "ScaleError": None, "InvalidPassage": ["word"], "InvalidScale": ["word"], "InvalidLink": ["word"],
    "InvalidSystem": ["word"], "InvalidWay": ["at"], "InvalidText": ["at"], "InvalidCommand": [],
    "Mismatch": [], "Refused": ["at"], "NoName": ["name"], "NoValue": ["value"],
}

FUNCTIONS = {
    "partners": {
        "fits": ["p", "q"], "misfit": ["p", "q"], "at_most": ["p"], "at_least": ["p"], "lost": ["p", "q"],
        "lowered": ["p"], "raised": ["p"],
    },
    "resting": {"rest": ["p"], "rounds": ["p", "x"], "slowest": ["p"], "fixed": ["p"]},
    "chains": {
        "highest": ["system", "source", "target"], "lowest": ["system", "source", "target"], "growing": ["system"],
        "falling": ["system"], "reach": ["system", "source", "x", "target", "y"],
    },
    "papers": {"paper": ["system"], "paper_holds": ["system", "value"]},
    "repairs": {"strikes": ["system"], "needless": ["system"]},
    "origins": {"origins": ["system", "source", "results"]},
}

CLASSES = {
    ("passages", "Passage"): {
        "__init__": ["self", "top", "target", "pieces"], "table": ["values", "target"], "same": ["top"],
        "read": ["text"], "__call__": ["self", "x"], "sources": ["self", "y"], "__len__": ["self"],
        "__str__": ["self"], "__rshift__": None, "__or__": None, "__and__": None, "__le__": None,
        "__lt__": None, "__ge__": None, "__gt__": None, "__eq__": None,
    },
    ("systems", "Scale"): {"__init__": ["self", "name", "top", "words"], "__eq__": None},
    ("systems", "Link"): {"__init__": ["self", "name", "source", "target", "passage"], "__eq__": None},
    ("systems", "System"): {
        "__init__": ["self", "scales", "links"], "scale": ["self", "name"], "link": ["self", "name"],
        "without": ["self", "name"], "way": ["self", "names"], "read": ["text"], "__add__": None, "__eq__": None,
        "__str__": ["self"],
    },
    ("live", "Live"): {
        "__init__": ["self", "system"], "names": None, "put": ["self", "name", "scale", "value"],
        "send": ["self", "name", "link"], "sends": ["self", "name", "links"], "path": ["self", "name"],
        "start": ["self", "name"], "undo": ["self"], "within": ["self", "work"], "__len__": ["self"],
        "__contains__": None, "__getitem__": None,
    },
    ("desk", "Desk"): {"__init__": ["self"], "say": ["self", "command"]},
}


def module(name):
    """Return the module of the package with this name."""
    return import_module(f"scaleways.{name}")


def parameters(thing):
    """Return the names of the parameters of a function."""
    return list(inspect.signature(thing).parameters)


def defined(name):
    """Return the names that the file of a module defines itself."""
    tree = ast.parse(Path(module(name).__file__).read_text(encoding="utf-8"))
    return [node.name for node in tree.body if isinstance(node, (ast.FunctionDef, ast.ClassDef))]


class InterfaceTest(unittest.TestCase):
    def test_methods_stand_in_the_class(self):
        for (file, word), methods in CLASSES.items():
            self.assertIn(word, defined(file))
            made = getattr(module(file), word)
            for name, names in methods.items():
                self.assertIn(name, vars(made))
                if names is not None:
                    self.assertEqual(parameters(getattr(made, name)), names)

    def test_functions(self):
        for file, functions in FUNCTIONS.items():
            for name, names in functions.items():
                self.assertIn(name, defined(file))
                self.assertEqual(parameters(getattr(module(file), name)), names)

    def test_errors(self):
        for name, names in ERRORS.items():
            self.assertIn(name, defined("errors"))
            if names:
                self.assertEqual(parameters(getattr(module("errors"), name)), names)

    def test_class_methods(self):
        for (file, word), methods in CLASSES.items():
            for name in {"table", "same", "read"} & set(methods):
                self.assertIsInstance(vars(getattr(module(file), word))[name], classmethod)

    def test_properties(self):
        self.assertIsInstance(vars(module("live").Live)["names"], property)

    def test_attributes_are_set_at_once(self):
        system = module("systems").System.read("scale a 3")
        self.assertIs(module("live").Live(system).system, system)
        self.assertIsNone(module("desk").Desk().live)

    def test_defaults(self):
        systems = module("systems")
        for made, name in ((systems.Scale, "words"), (systems.System, "links")):
            self.assertEqual(inspect.signature(made).parameters[name].default, ())

    def test_init_holds_only_a_docstring(self):
        body = ast.parse(Path(scaleways.__file__).read_text(encoding="utf-8")).body
        self.assertEqual(len(body), 1)
        self.assertIsInstance(ast.literal_eval(body[0].value), str)


if __name__ == "__main__":
    unittest.main()
