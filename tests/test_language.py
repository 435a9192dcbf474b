"""The rules of the language that a plain look at the source can check."""

import ast
import builtins
import unittest
from pathlib import Path

import scaleways

FOLDER = Path(scaleways.__file__).parent

BUILTINS = set(
    "len range enumerate zip sum abs reversed int str bool list tuple dict set isinstance ord repr any all divmod "
    "sorted classmethod property".split()
)

METHODS = set(
    "append clear copy count endswith extend find get index insert isalnum isalpha isdigit islower isspace isupper "
    "items join keys ljust lower lstrip partition pop remove replace reverse rfind rjust rpartition rsplit rstrip "
    "setdefault split splitlines startswith strip update upper values zfill bit_length add discard removeprefix "
    "removesuffix isascii".split()
)

# Attributes that hold objects which are called.
CALLED = {"passage"}

BARRED_NODES = (
    ast.Global, ast.AsyncFunctionDef, ast.AsyncFor, ast.AsyncWith, ast.Await, ast.Div, ast.Import, ast.MatMult,
    ast.TryStar, ast.Yield, ast.YieldFrom, ast.GeneratorExp,
)

# Python itself keeps the last result that it has shown under this name.
PYTHONS_NAMES = set(dir(builtins)) - {"_"}

BARRED_NAMES = set("register mro elements open input law version_info with_traceback add_note".split())


def sources():
    """Return the path, the text and the tree of each file of the package."""
    found = []
    for path in sorted(FOLDER.glob("**/*.py")):
        text = path.read_text(encoding="utf-8")
        found.append((path, text, ast.parse(text)))
    return found


def bound_names(tree):
    """Return all parameters and names that are assigned or defined somewhere in a tree."""
    found = set()
    for node in ast.walk(tree):
        if isinstance(node, ast.arg):
            found.add(node.arg)
        elif isinstance(node, ast.Name) and not isinstance(node.ctx, ast.Load):
            found.add(node.id)
    return found


def defined_names(tree):
    """Return the names of the functions and classes at module level."""
    return {node.name for node in tree.body if isinstance(node, (ast.FunctionDef, ast.ClassDef))}


def imported(tree):
    """Return pairs of a module and a name that is imported from it."""
    return [
        (node.module, alias.name)
        for node in ast.walk(tree) if isinstance(node, ast.ImportFrom)
        for alias in node.names
    ]


def assigned_attributes(tree):
    """Return the attributes that are assigned somewhere in a tree."""
    return {
        node.attr for node in ast.walk(tree)
        if isinstance(node, ast.Attribute) and not isinstance(node.ctx, ast.Load)
    }


def is_error(value):
    """Whether this is a class of errors."""
    return isinstance(value, type) and issubclass(value, Exception)


class LanguageTest(unittest.TestCase):
    def each(self, kind):
        """Return pairs of a place and a node of this kind."""
        return [
            (f"{path.name}:{node.lineno}", node)
            for path, _, tree in sources()
            for node in ast.walk(tree) if isinstance(node, kind)
        ]

    def test_files(self):
        for path in FOLDER.iterdir():
            self.assertTrue(path.suffix == ".py" or path.name == "__pycache__", path)
        for path, text, _ in sources():
            self.assertTrue(all(sign == "\n" or " " <= sign <= "~" for sign in text), path)
            self.assertLessEqual(len(text.splitlines()), 399, path)
            self.assertLessEqual(max(len(line) for line in text.splitlines()), 120, path)

    def test_functions_are_small(self):
        for place, node in self.each(ast.FunctionDef):
            self.assertLessEqual(node.end_lineno - node.lineno + 1, 40, place)

    def test_module_level(self):
        for path, _, tree in sources():
            for at, node in enumerate(tree.body):
                if at == 0:
                    self.assertIsInstance(ast.literal_eval(node.value), str, path)
                elif isinstance(node, ast.Assign):
                    self.assertIsInstance(node.targets[0], ast.Name)
                else:
                    self.assertIsInstance(node, (ast.ImportFrom, ast.FunctionDef, ast.ClassDef), path)

    def test_imports(self):
        trees = {f"scaleways.{path.stem}": tree for path, _, tree in sources()}
        before = {name: {module for module, _ in imported(tree)} for name, tree in trees.items()}
        for name, tree in trees.items():
            for module, word in imported(tree):
                self.assertIn(word, defined_names(trees[module]), (name, module))
        while before:
            free = [name for name in before if not before[name] & set(before)]
            self.assertTrue(free, before)
            before = {name: before[name] for name in before if name not in free}

    def test_nothing_that_is_barred(self):
        for place, node in self.each(BARRED_NODES):
            self.fail((place, node))
        for place, node in self.each(ast.Constant):
            self.assertNotIsInstance(node.value, float, place)
            if isinstance(node.value, str):
                self.assertNotIn(chr(37), node.value, place)
        for place, node in self.each(ast.Compare):
            for sign, other in zip(node.ops, node.comparators):
                if isinstance(sign, (ast.Is, ast.IsNot)):
                    self.assertIn(getattr(other, "value", "no constant"), (None, True, False), place)

    def test_names(self):
        for path, _, tree in sources():
            outer = defined_names(tree) | {word for _, word in imported(tree)}
            self.assertFalse(bound_names(tree) & outer, path)
            names = bound_names(tree) | defined_names(tree)
            self.assertFalse(names & (PYTHONS_NAMES | BARRED_NAMES), path)
            self.assertFalse([name for name in names if name.startswith("__")], path)

    def test_attributes(self):
        for place, node in self.each(ast.ClassDef):
            methods = {child.name for child in node.body if isinstance(child, ast.FunctionDef)}
            self.assertFalse(methods & assigned_attributes(node), place)
            self.assertFalse(assigned_attributes(node) & METHODS, place)

    def test_stars(self):
        for place, node in self.each(ast.Call):
            for argument in node.args:
                if isinstance(argument, ast.Starred):
                    self.assertIsInstance(argument.value, ast.Name, place)

    def test_sets(self):
        for place, node in self.each(ast.For):
            self.assertNotIsInstance(node.iter, (ast.Set, ast.SetComp), place)
        within = set()
        for _, node in self.each(ast.Call):
            if isinstance(node.func, ast.Name) and node.func.id in ("len", "sorted"):
                within |= {ast.dump(argument) for argument in node.args}
        for place, node in self.each((ast.Set, ast.SetComp, ast.Call)):
            if not isinstance(node, ast.Call) or getattr(node.func, "id", "") == "set":
                self.assertIn(ast.dump(node), within, place)

    def test_sorted_takes_strings(self):
        # Passages have an order, so what is sorted has to be plainly something else.
        for place, node in self.each(ast.Call):
            if getattr(node.func, "id", "") == "sorted":
                self.assertEqual((len(node.args), node.keywords), (1, []), place)
                self.assertIsInstance(node.args[0], ast.ListComp, place)
                self.assertEqual(node.args[0].elt.func.id, "str", place)

    def test_an_index_needs_a_refusal_to_iterate(self):
        for place, node in self.each(ast.ClassDef):
            methods = {child.name: child for child in node.body if isinstance(child, ast.FunctionDef)}
            if "__getitem__" in methods:
                self.assertEqual([row.__class__ for row in methods["__iter__"].body], [ast.Raise], place)

    def test_nothing_is_a_method_and_an_attribute(self):
        trees = [tree for _, _, tree in sources()]
        methods = {child.name for tree in trees for node in tree.body if isinstance(node, ast.ClassDef)
                   for child in node.body if isinstance(child, ast.FunctionDef)}
        for tree in trees:
            self.assertFalse(methods & assigned_attributes(tree))

    def test_finally_only_assigns(self):
        for place, node in self.each(ast.Try):
            for row in node.finalbody:
                self.assertIsInstance(row, ast.Assign, place)
                self.assertIsInstance(row.value, ast.Name, place)

    def test_errors_are_caught_by_their_own_names(self):
        own = defined_names(dict((path.stem, tree) for path, _, tree in sources())["errors"])
        for place, node in self.each(ast.ExceptHandler):
            for caught in node.type.elts if isinstance(node.type, ast.Tuple) else [node.type]:
                self.assertIn(caught.id, own, place)

    def test_imports_are_used(self):
        for path, _, tree in sources():
            read = {node.id for node in ast.walk(tree) if isinstance(node, ast.Name)}
            self.assertFalse({word for _, word in imported(tree)} - read, path)

    def test_calls(self):
        own = set()
        for _, _, tree in sources():
            own |= {node.name for node in ast.walk(tree) if isinstance(node, ast.FunctionDef)}
        for place, node in self.each(ast.Call):
            if isinstance(node.func, ast.Attribute):
                self.assertIn(node.func.attr, METHODS | CALLED | own, place)
        for place, node in self.each(ast.Name):
            if node.id in PYTHONS_NAMES and not is_error(getattr(builtins, node.id)):
                self.assertIn(node.id, BUILTINS | {"NotImplemented"}, place)


if __name__ == "__main__":
    unittest.main()
