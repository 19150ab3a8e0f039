"""The package's files keep to the small part of Python told in ../shared/LANGUAGE.md, as far as a walk can see it."""

import ast
import builtins
import re
import unittest
from pathlib import Path

PACKAGE = Path(__file__).resolve().parent.parent / "cellmoments"

NODES = """Module Import ImportFrom alias FunctionDef ClassDef arguments arg Lambda Return Assign AugAssign For While If
Raise Try ExceptHandler Expr Pass Break Continue BoolOp And Or BinOp Add Sub Mult FloorDiv Mod Pow LShift RShift BitOr
BitXor BitAnd UnaryOp Not USub Invert UAdd IfExp Dict List Tuple Set ListComp comprehension Compare Eq NotEq Lt LtE Gt
GtE Is IsNot In NotIn Call keyword JoinedStr FormattedValue Constant Attribute Subscript Name Load Store Slice""".split()

BUILTINS = """len range enumerate zip min max sum abs sorted reversed int str bool list tuple dict set frozenset isinstance
ord repr any all divmod Exception ValueError TypeError KeyError IndexError LookupError ZeroDivisionError ArithmeticError
OverflowError RuntimeError NotImplementedError AttributeError StopIteration""".split()

METHODS = """append clear copy count endswith extend find get index insert isalnum isalpha isdigit islower isspace isupper
items join keys ljust lower lstrip partition pop remove replace reverse rfind rjust rpartition rsplit rstrip setdefault
split splitlines startswith strip update upper values zfill bit_length""".split()

WALKED = "zip enumerate reversed range items keys values".split()

UNUSED_NAMES = """register mro elements open input version_info with_traceback add_note attrgetter breakpoint builtins
compile copyright credits delattr dir eval exec exit gc getattr globals hasattr help id importlib license locals
methodcaller os quit setattr super type vars sys __name__""".split()

UNUSED_WORDS = re.compile(r"\b(type|typing|typing_extensions|enum|Enum|IntEnum|StrEnum|Flag|IntFlag|Generic|Protocol|ABC"
                          r"|ABCMeta|namedtuple|NamedTuple|TypedDict|TYPE_CHECKING|abstractmethod)\b"
                          r"|dataclass|overload|contextmanager")


def sources():
    return [(path, path.read_text(encoding="utf-8")) for path in sorted(PACKAGE.rglob("*.py"))]


def trees():
    return [(path, ast.parse(text)) for path, text in sources()]


def nodes(*kinds):
    """(where, node) for every node of these kinds in the package."""
    return [(f"{path.name}:{getattr(node, 'lineno', 0)}", node)
            for path, tree in trees() for node in ast.walk(tree) if isinstance(node, kinds)]


def own_methods():
    return {part.name for where, node in nodes(ast.ClassDef) for part in node.body if isinstance(part, ast.FunctionDef)}


def object_values():
    return {node.attr for where, node in nodes(ast.Attribute) if isinstance(node.ctx, ast.Store)}


def bound_names(tree):
    """Every name that a def binds: parameters and what is stored."""
    found = []
    for node in ast.walk(tree):
        if isinstance(node, ast.arg):
            found.append((node.lineno, node.arg))
        if isinstance(node, ast.Name) and isinstance(node.ctx, ast.Store):
            found.append((node.lineno, node.id))
    return found


class Files(unittest.TestCase):
    def test_only_plain_files(self):
        for path in PACKAGE.rglob("*"):
            if "__pycache__" not in path.parts:
                self.assertRegex(path.name, r"^([a-z][a-z0-9_]*|__init__|__main__)\.py$")
                self.assertNotIn(path.stem, dir(builtins))
        self.assertTrue((PACKAGE / "__init__.py").is_file())

    def test_size_and_signs(self):
        for path, text in sources():
            lines = text.split("\n")
            self.assertLessEqual(len(lines), 401, path.name)
            for number, line in enumerate(lines, start=1):
                self.assertLessEqual(len(line), 120, f"{path.name}:{number}")
                self.assertTrue(all(" " <= sign <= "~" for sign in line), f"{path.name}:{number}")
                self.assertIsNone(UNUSED_WORDS.search(line), f"{path.name}:{number}")

    def test_functions_are_short(self):
        for where, node in nodes(ast.FunctionDef):
            self.assertLessEqual(node.end_lineno - node.lineno + 1, 40, where)

    def test_imports(self):
        defined = {"cellmoments." + path.stem: [part.name for part in tree.body if hasattr(part, "name")] + [
            part.targets[0].id for part in tree.body if isinstance(part, ast.Assign)] for path, tree in trees()}
        drawn = {}
        for path, tree in trees():
            rows = [node for node in ast.walk(tree) if isinstance(node, (ast.Import, ast.ImportFrom))]
            for row in rows:
                self.assertIn(row, tree.body, path.name)
                self.assertIsInstance(row, ast.ImportFrom, path.name)
                for part in row.names:
                    self.assertIn(part.name, defined[row.module], path.name)
            drawn["cellmoments." + path.stem] = [row.module for row in rows]
        while drawn:
            ready = [name for name in drawn if not any(other in drawn for other in drawn[name])]
            self.assertTrue(ready, f"these draw from one another: {sorted(drawn)}")
            for name in ready:
                del drawn[name]

    def test_the_top_of_a_file(self):
        for path, tree in trees():
            bound = []
            for place, part in enumerate(tree.body):
                if place == 0 and isinstance(part, ast.Expr) and isinstance(part.value, ast.Constant):
                    continue
                self.assertIsInstance(part, (ast.ImportFrom, ast.FunctionDef, ast.ClassDef, ast.Assign), path.name)
                if isinstance(part, ast.ImportFrom):
                    bound.extend([name.asname or name.name for name in part.names])
                else:
                    bound.append(part.targets[0].id if isinstance(part, ast.Assign) else part.name)
            self.assertEqual(len(bound), len(set(bound)), path.name)


class Forms(unittest.TestCase):
    def test_nodes(self):
        for where, node in nodes(ast.AST):
            self.assertIn(node.__class__.__name__, NODES, where)
            if isinstance(node, ast.Assign):
                self.assertEqual(len(node.targets), 1, where)
                self.assertNotIsInstance(node.targets[0], (ast.Tuple, ast.List), where)
            if isinstance(node, (ast.For, ast.While)):
                self.assertEqual(node.orelse, [], where)
            if isinstance(node, ast.Try):
                self.assertEqual(node.finalbody, [], where)
            if isinstance(node, ast.ListComp):
                self.assertEqual(len(node.generators), 1, where)
                self.assertLessEqual(len(node.generators[0].ifs), 1, where)
            if isinstance(node, ast.Constant):
                self.assertIn(node.value.__class__, (int, str, bool, None.__class__), where)

    def test_defs_are_plain(self):
        for where, node in nodes(ast.FunctionDef, ast.ClassDef):
            self.assertEqual(node.decorator_list, [], where)
        for where, node in nodes(ast.FunctionDef, ast.Lambda):
            given = node.args
            self.assertFalse(given.vararg or given.kwarg or given.kwonlyargs or given.posonlyargs, where)
            self.assertFalse([part for part in given.args if part.annotation], where)
        for where, node in nodes(ast.FunctionDef):
            self.assertIsNone(node.returns, where)

    def test_classes_hold_methods_alone(self):
        for where, node in nodes(ast.ClassDef):
            names = []
            for part in node.body:
                self.assertIsInstance(part, ast.FunctionDef, where)
                names.append(part.name)
            self.assertEqual(len(names), len(set(names)), where)
        self.assertEqual(own_methods() & object_values(), set())

    def test_is(self):
        for where, node in nodes(ast.Compare):
            for sign, right in zip(node.ops, node.comparators):
                if isinstance(sign, (ast.Is, ast.IsNot)):
                    self.assertTrue(isinstance(right, ast.Constant) and right.value in (None, True, False), where)

    def test_walked_at_once(self):
        allowed = []
        for where, node in nodes(ast.For, ast.comprehension):
            allowed.append(ast.dump(node.iter))
        for where, node in nodes(ast.Call):
            if isinstance(node.func, ast.Name) and node.func.id in BUILTINS and node.args:
                allowed.append(ast.dump(node.args[0]))
        for where, node in nodes(ast.Call):
            called = node.func.id if isinstance(node.func, ast.Name) else getattr(node.func, "attr", "")
            if called in WALKED:
                self.assertIn(ast.dump(node), allowed, where)


class Names(unittest.TestCase):
    def test_plain_names(self):
        for path, tree in trees():
            taken = [part.name for part in tree.body if isinstance(part, ast.ClassDef)]
            for part in tree.body:
                if isinstance(part, ast.ImportFrom):
                    taken.extend([name.asname or name.name for name in part.names])
            for line, name in bound_names(tree):
                self.assertRegex(name, r"^[A-Za-z][A-Za-z0-9_]*$", f"{path.name}:{line}")
                self.assertNotIn(name, dir(builtins), f"{path.name}:{line}")
                self.assertNotIn(name, taken, f"{path.name}:{line}")

    def test_defined_names(self):
        for where, node in nodes(ast.FunctionDef, ast.ClassDef):
            if node.name != "__init__":
                self.assertRegex(node.name, r"^[A-Za-z][A-Za-z0-9_]*$", where)
                self.assertNotIn(node.name, UNUSED_NAMES, where)

    def test_names_of_pythons_own(self):
        for path, tree in trees():
            for node in ast.walk(tree):
                if isinstance(node, ast.Name):
                    self.assertNotIn(node.id, UNUSED_NAMES, path.name)
                    if node.id in dir(builtins):
                        self.assertIn(node.id, BUILTINS, f"{path.name}:{node.lineno}")

    def test_methods(self):
        builtin = {name for kind in (str, int, list, dict, set, bytes, tuple) for name in dir(kind)}
        for where, node in nodes(ast.Attribute):
            self.assertIn(node.attr, set(METHODS) | own_methods() | object_values(), where)
            self.assertNotIn(node.attr, UNUSED_NAMES, where)
        for name in (own_methods() | object_values()) - {"__init__"}:
            self.assertNotIn(name, builtin)

    def test_sets_are_asked_on_the_spot(self):
        allowed = []
        for where, node in nodes(ast.Call):
            if isinstance(node.func, ast.Name) and node.func.id in ("sorted", "len"):
                allowed.extend([ast.dump(part) for part in node.args])
        for where, node in nodes(ast.Compare):
            allowed.extend([ast.dump(part) for part in [node.left] + node.comparators])
        for where, node in nodes(ast.Call, ast.Set):
            if isinstance(node, ast.Set) or isinstance(node.func, ast.Name) and node.func.id in ("set", "frozenset"):
                self.assertIn(ast.dump(node), allowed, where)


if __name__ == "__main__":
    unittest.main()
