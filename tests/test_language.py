"""The rules of LANGUAGE.md that a glance at the source can check."""

import ast
import re
import unittest
from pathlib import Path

PACKAGE = Path(__file__).resolve().parent.parent / "rowtrim"
FILES = sorted(path for path in PACKAGE.rglob("*.py"))
WORDS = (
    "type typing typing_extensions enum Enum IntEnum StrEnum Flag IntFlag Generic Protocol ABC ABCMeta "
    "namedtuple NamedTuple TypedDict TYPE_CHECKING abstractmethod"
).split()
BUILTINS = (
    "len range enumerate zip min max sum abs sorted reversed int str bool bytes list tuple dict set frozenset "
    "isinstance ord repr any all divmod Exception ValueError TypeError KeyError IndexError LookupError "
    "ZeroDivisionError ArithmeticError OverflowError RuntimeError NotImplementedError AttributeError StopIteration"
).split()
METHODS = (
    "append clear copy count endswith extend find get index insert isalnum isalpha isdigit islower isspace isupper "
    "items join keys ljust lower lstrip partition pop remove replace reverse rfind rjust rpartition rsplit rstrip "
    "setdefault split splitlines startswith strip update upper values zfill bit_length"
).split()
BARRED = (
    ast.GeneratorExp, ast.NamedExpr, ast.Div, ast.With, ast.Match, ast.Global, ast.Nonlocal, ast.Yield,
    ast.YieldFrom, ast.AsyncFunctionDef, ast.Await, ast.Import,
)


def trees():
    return [(path, ast.parse(path.read_text(encoding="utf-8"))) for path in FILES]


def bound_names(tree):
    """Every name that a file gives a meaning to."""
    names = []
    for node in ast.walk(tree):
        if isinstance(node, (ast.FunctionDef, ast.ClassDef)):
            names.append(node.name)
        elif isinstance(node, ast.arg):
            names.append(node.arg)
        elif isinstance(node, ast.Name) and isinstance(node.ctx, ast.Store):
            names.append(node.id)
        elif isinstance(node, ast.Attribute) and isinstance(node.ctx, ast.Store):
            names.append(node.attr)
        elif isinstance(node, ast.alias):
            names.append(node.asname or node.name)
    return names


def own_methods():
    """The names of all methods of the package's classes."""
    names = []
    for path, tree in trees():
        for node in ast.walk(tree):
            if isinstance(node, ast.ClassDef):
                names += [part.name for part in node.body if isinstance(part, ast.FunctionDef)]
    return names


def own_attributes():
    """The names of all attributes that the package assigns."""
    return [
        node.attr for path, tree in trees() for node in ast.walk(tree)
        if isinstance(node, ast.Attribute) and isinstance(node.ctx, ast.Store)
    ]


class Language(unittest.TestCase):
    def test_the_folder_holds_source_files_alone(self):
        others = [path for path in PACKAGE.rglob("*") if path.suffix != ".py" and path.name != "__pycache__"]
        self.assertEqual([path for path in others if path.suffix != ".pyc"], [])

    def test_sizes_and_signs(self):
        for path in FILES:
            text = path.read_text(encoding="utf-8")
            lines = text.split("\n")
            self.assertLessEqual(len(lines), 400, path)
            self.assertLessEqual(max(len(line) for line in lines), 120, path)
            self.assertEqual([sign for sign in text if sign != "\n" and not " " <= sign <= "~"], [], path)
            self.assertEqual([word for word in re.findall(r"\w+", text) if word in WORDS], [], path)

    def test_functions_are_short_and_plain(self):
        for path, tree in trees():
            for node in ast.walk(tree):
                if isinstance(node, ast.FunctionDef):
                    self.assertLessEqual(node.end_lineno - node.lineno + 1, 40, (path, node.name))
                    self.assertEqual(node.decorator_list, [], (path, node.name))
                    self.assertIsNone(node.args.vararg, (path, node.name))
                    self.assertIsNone(node.args.kwarg, (path, node.name))

    def test_nothing_barred(self):
        for path, tree in trees():
            for node in ast.walk(tree):
                self.assertNotIsInstance(node, BARRED, path)
                if isinstance(node, ast.Constant):
                    self.assertNotIsInstance(node.value, (float, complex), path)
                    self.assertNotIn("%", str(node.value), path)
                if isinstance(node, ast.ImportFrom):
                    self.assertEqual((node.level, node.module.split(".")[0]), (0, "rowtrim"), path)

    def test_names(self):
        for path, tree in trees():
            bound = bound_names(tree)
            for name in bound:
                self.assertTrue(not name.startswith("_") or name.startswith("__") and name.endswith("__"), name)
                self.assertNotIn(name, BUILTINS, path)
            for node in ast.walk(tree):
                if isinstance(node, ast.Name) and isinstance(node.ctx, ast.Load):
                    self.assertIn(node.id, bound + BUILTINS, path)

    def test_methods_and_attributes(self):
        self.assertEqual(set(own_methods()) & set(own_attributes()), set())
        for path, tree in trees():
            called = [node.func for node in ast.walk(tree) if isinstance(node, ast.Call)]
            for node in ast.walk(tree):
                if isinstance(node, ast.Attribute) and node in called:
                    self.assertIn(node.attr, METHODS + own_methods(), path)
                elif isinstance(node, ast.Attribute):
                    self.assertIn(node.attr, own_attributes(), path)

    def test_no_local_name_is_an_import_or_a_class(self):
        for path, tree in trees():
            taken = [node.name for node in tree.body if isinstance(node, ast.ClassDef)]
            for node in tree.body:
                if isinstance(node, ast.ImportFrom):
                    taken += [alias.asname or alias.name for alias in node.names]
            local = [node.arg for node in ast.walk(tree) if isinstance(node, ast.arg)]
            names = [node for node in ast.walk(tree) if isinstance(node, ast.Name)]
            local += [node.id for node in names if isinstance(node.ctx, ast.Store)]
            self.assertEqual(set(local) & set(taken), set(), path)

    def test_is_stands_beside_none_true_and_false_alone(self):
        for path, tree in trees():
            for node in ast.walk(tree):
                if isinstance(node, ast.Compare) and isinstance(node.ops[0], (ast.Is, ast.IsNot)):
                    self.assertIn(ast.unparse(node.comparators[0]), ("None", "True", "False"), path)

    def test_sets_are_only_measured(self):
        for path, tree in trees():
            measured = []
            for node in ast.walk(tree):
                if isinstance(node, ast.Call) and ast.unparse(node.func) in ("len", "sorted"):
                    measured += node.args
            for node in ast.walk(tree):
                if isinstance(node, ast.SetComp) or isinstance(node, ast.Call) and ast.unparse(node.func) == "set":
                    self.assertIn(node, measured, path)

    def test_no_two_files_import_from_each_other(self):
        needs = {}
        for path, tree in trees():
            sources = [node.module for node in ast.walk(tree) if isinstance(node, ast.ImportFrom)]
            needs["rowtrim." + path.stem] = sources
        while needs:
            free = [name for name in needs if not any(source in needs for source in needs[name])]
            self.assertNotEqual(free, [], needs)
            needs = {name: needs[name] for name in needs if name not in free}


if __name__ == "__main__":
    unittest.main()
