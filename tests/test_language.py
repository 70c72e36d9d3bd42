"""The package keeps to the small part of Python that it is written in."""

import ast
import builtins
import pathlib
import re
import unittest

PACKAGE = pathlib.Path(__file__).resolve().parent.parent / "jumpschool"

NODES = """Module FunctionDef arguments arg ClassDef Return Assign AugAssign For While If Raise Try ExceptHandler Expr
Pass Break Continue ImportFrom alias BoolOp And Or BinOp Add Sub Mult FloorDiv Mod Pow BitAnd BitOr BitXor LShift RShift
UnaryOp Not USub Invert Lambda IfExp Dict List Tuple ListComp comprehension Compare Eq NotEq Lt LtE Gt GtE Is IsNot In
NotIn Call keyword Attribute Subscript Slice Name Load Store Constant JoinedStr FormattedValue""".split()

BUILT_IN = """len range enumerate zip min max sum abs sorted reversed int str bool list tuple dict set frozenset isinstance
ord repr any all divmod Exception ValueError TypeError KeyError IndexError LookupError ZeroDivisionError ArithmeticError
OverflowError RuntimeError NotImplementedError AttributeError StopIteration""".split()

METHODS = """append clear copy count endswith extend find get index insert isalnum isalpha isdigit islower isspace isupper
items join keys ljust lower lstrip partition pop remove replace reverse rfind rjust rpartition rsplit rstrip setdefault
split splitlines startswith strip update upper values zfill bit_length""".split()

UNUSED_WORDS = """type typing typing_extensions enum Enum IntEnum StrEnum Flag IntFlag Generic Protocol ABC ABCMeta namedtuple
NamedTuple TypedDict TYPE_CHECKING abstractmethod""".split()

UNUSED_NAMES = """register mro elements open input version_info with_traceback add_note attrgetter breakpoint builtins compile
copyright credits delattr dir eval exec exit gc getattr globals hasattr help id importlib license locals methodcaller os
quit setattr super sys vars""".split()

OWN_VALUES = [name for value in ("", 0, [], {}, set(), b"", ()) for name in dir(value)]


def sources():
    return [(path.name, path.read_text(encoding="utf-8")) for path in sorted(PACKAGE.glob("*.py"))]


def trees():
    return [(name, ast.parse(text)) for name, text in sources()]


def bound_names(tree):
    names = []
    for node in ast.walk(tree):
        if isinstance(node, ast.Name) and isinstance(node.ctx, ast.Store):
            names.append(node.id)
        elif isinstance(node, ast.arg):
            names.append(node.arg)
        elif isinstance(node, (ast.FunctionDef, ast.ClassDef)) and node.name != "__init__":
            names.append(node.name)
        elif isinstance(node, ast.Attribute) and isinstance(node.ctx, ast.Store):
            names.append(node.attr)
    return names


class Language(unittest.TestCase):
    def test_only_plain_files_lie_in_the_package(self):
        for path in PACKAGE.iterdir():
            if path.name != "__pycache__":
                self.assertRegex(path.name, r"^(__init__|[a-z][a-z0-9_]*)\.py$")

    def test_sizes_and_signs(self):
        for name, text in sources():
            self.assertRegex(text, r"^[ -~\n]*$", name)
            rows = text.split("\n")
            self.assertLessEqual(len(rows), 400, name)
            self.assertLessEqual(max(len(row) for row in rows), 120, name)
            for node in ast.walk(ast.parse(text)):
                if isinstance(node, ast.FunctionDef):
                    self.assertLessEqual(node.end_lineno - node.lineno + 1, 40, node.name)

    def test_words(self):
        for name, text in sources():
            words = re.findall(r"\w+", text)
            for word in UNUSED_WORDS + UNUSED_NAMES:
                self.assertNotIn(word, words, name)

    def test_forms(self):
        for name, tree in trees():
            for node in ast.walk(tree):
                where = f"{name}:{getattr(node, 'lineno', 0)}"
                self.assertIn(node.__class__.__name__, NODES, where)
                if isinstance(node, ast.Constant):
                    self.assertIn(node.value.__class__, (int, str, bool, None.__class__), where)
                if isinstance(node, ast.Assign):
                    self.assertEqual(len(node.targets), 1, where)
                    self.assertNotIsInstance(node.targets[0], (ast.Tuple, ast.List), where)
                if isinstance(node, (ast.For, ast.While)):
                    self.assertEqual(node.orelse, [], where)
                if isinstance(node, (ast.FunctionDef, ast.ClassDef)):
                    self.assertEqual(node.decorator_list, [], where)
                if isinstance(node, ast.arguments):
                    self.assertFalse(node.vararg or node.kwarg or node.kwonlyargs or node.posonlyargs, where)

    def test_imports_are_the_packages_own_by_full_names_and_in_no_circle(self):
        drawn = {}
        for name, tree in trees():
            module = "jumpschool." + name[:-3]
            rows = [node for node in ast.walk(tree) if isinstance(node, ast.ImportFrom)]
            drawn[module] = sorted({row.module for row in rows})
            for row in rows:
                self.assertEqual(row.level, 0, name)
                self.assertIn(row, tree.body, name)
                file = PACKAGE / (row.module.removeprefix("jumpschool.") + ".py")
                defined = bound_names(ast.parse(file.read_text(encoding="utf-8")))
                for drawn_name in row.names:
                    self.assertIn(drawn_name.name, defined, name)
                    self.assertIsNone(drawn_name.asname, name)
        while drawn:
            free = [module for module in drawn if not any(other in drawn for other in drawn[module])]
            self.assertNotEqual(free, [], f"a circle among {sorted(drawn)}")
            drawn = {module: drawn[module] for module in drawn if module not in free}

    def test_names(self):
        for name, tree in trees():
            at_top = [node.id for row in tree.body for node in ast.walk(row)
                      if isinstance(row, ast.Assign) and isinstance(node, ast.Name)]
            self.assertEqual(len(at_top), len(set(at_top)), name)
            for bound in bound_names(tree):
                self.assertRegex(bound, r"^[A-Za-z][A-Za-z0-9_]*$", name)
                self.assertNotIn(bound, dir(builtins), name)
            for node in ast.walk(tree):
                if isinstance(node, ast.Name) and node.id in dir(builtins):
                    self.assertIn(node.id, BUILT_IN, name)

    def test_no_parameter_or_local_is_called_like_a_class_or_an_import(self):
        for name, tree in trees():
            taken = [drawn.name for row in tree.body if isinstance(row, ast.ImportFrom) for drawn in row.names]
            taken += [row.name for row in tree.body if isinstance(row, ast.ClassDef)]
            for function in ast.walk(tree):
                if isinstance(function, ast.FunctionDef):
                    inner = [node.arg for node in ast.walk(function) if isinstance(node, ast.arg)]
                    inner += [node.id for node in ast.walk(function)
                              if isinstance(node, ast.Name) and isinstance(node.ctx, ast.Store)]
                    self.assertEqual([each for each in inner if each in taken], [], name)

    def test_methods_and_values(self):
        methods = [node.name for name, tree in trees() for top in tree.body if isinstance(top, ast.ClassDef)
                   for node in top.body]
        for name, tree in trees():
            for node in ast.walk(tree):
                if isinstance(node, ast.Attribute) and isinstance(node.ctx, ast.Store):
                    self.assertNotIn(node.attr, OWN_VALUES, name)
                    self.assertNotIn(node.attr, methods, name)
                if isinstance(node, ast.Call) and isinstance(node.func, ast.Attribute):
                    self.assertIn(node.func.attr, METHODS + methods, name)


if __name__ == "__main__":
    unittest.main()
