"""The package's files keep to the small part of Python told in ../shared/LANGUAGE.md, as far as a walk can see it.

Where a rule leaves a choice that the package has no use for (errors, annotations, lists at a file's top, `__eq__` and
its like), the walk is stricter than the rule.
"""

import ast
import builtins
import io
import re
import tokenize
import unittest
from pathlib import Path

PACKAGE = Path(__file__).resolve().parent.parent / "cellmoments"

NODES = """Module ImportFrom alias FunctionDef ClassDef arguments arg Lambda Return Assign AugAssign For While If Expr
Pass Break Continue BoolOp And Or BinOp Add Sub Mult FloorDiv Mod Pow LShift RShift BitOr BitXor BitAnd UnaryOp Not USub
Invert UAdd IfExp Dict List Tuple Set ListComp comprehension Compare Eq NotEq Lt LtE Gt GtE Is IsNot In NotIn Call
keyword JoinedStr FormattedValue Constant Attribute Subscript Name Load Store Slice""".split()

BUILTINS = """len range enumerate zip min max sum abs sorted reversed int str bool list tuple dict set frozenset
isinstance ord repr any all divmod""".split()

METHODS = """append clear copy count endswith extend find get index insert isalnum isalpha isdigit islower isspace
isupper items join keys ljust lower lstrip partition pop remove replace reverse rfind rjust rpartition rsplit rstrip
setdefault split splitlines startswith strip update upper values zfill bit_length""".split()

CHANGING = "append clear extend insert pop remove reverse setdefault update".split()

WALKED = "zip enumerate reversed range items keys values".split()

WALKING = "list tuple dict sorted sum any all enumerate zip".split()

KEYWORDS = {"sorted": ("key", "reverse"), "min": ("key", "default"), "max": ("key", "default"), "sum": ("start",),
            "enumerate": ("start",), "zip": ("strict",)}

UNUSED_NAMES = """register mro elements open input version_info with_traceback add_note attrgetter breakpoint builtins
compile copyright credits delattr dir eval exec exit gc getattr globals hasattr help id importlib license locals
methodcaller os quit setattr super type vars sys format format_map __name__""".split()

UNUSED_FILES = "test tests testing site conftest sitecustomize usercustomize".split()

UNUSED_WORDS = re.compile(r"\b(type|typing|typing_extensions|enum|Enum|IntEnum|StrEnum|Flag|IntFlag|Generic|Protocol"
                          r"|ABC|ABCMeta|namedtuple|NamedTuple|TypedDict|TYPE_CHECKING|abstractmethod)\b"
                          r"|dataclass|overload|contextmanager")

PLAIN_NAME = re.compile(r"[A-Za-z][A-Za-z0-9_]*")

OWN_NAMES_OF_VALUES = {name for kind in (str, int, list, dict, set, bytes, tuple) for name in dir(kind)}


def is_call_of(node, names):
    return isinstance(node, ast.Call) and isinstance(node.func, ast.Name) and node.func.id in names


def is_plain(node, functions):
    if isinstance(node, ast.Tuple):
        return all(is_plain(part, functions) for part in node.elts)
    if isinstance(node, ast.UnaryOp):
        return isinstance(node.op, ast.USub) and is_plain(node.operand, functions)
    return isinstance(node, ast.Constant) or isinstance(node, ast.Name) and node.id in functions


class Walk:
    """Goes through files, given as name to text, and gathers what goes against a rule: the rule's number and where."""

    def __init__(self, files):
        self.faults = []
        self.files = files
        self.trees = {name: ast.parse(text) for name, text in files.items()}
        every = [node for tree in self.trees.values() for node in ast.walk(tree)]
        self.classes = {node.name for node in every if isinstance(node, ast.ClassDef)}
        self.methods = [part.name for node in every if isinstance(node, ast.ClassDef)
                        for part in node.body if isinstance(part, ast.FunctionDef)]
        self.values = {node.attr for node in every
                       if isinstance(node, ast.Attribute) and isinstance(node.ctx, ast.Store)}
        for name, tree in self.trees.items():
            self.look_at_text(name, files[name])
            self.look_at_top(name, tree)
            self.look_at_names(name, tree)
            self.look_at_nodes(name, tree)
        self.look_at_package()

    def want(self, holds, rule, name, node):
        if not holds:
            self.faults.append(f"{rule} {name}:{getattr(node, 'lineno', node)}")

    def look_at_text(self, name, text):
        stem = name.removesuffix(".py")
        self.want(re.fullmatch(r"([a-z][a-z0-9_]*|__init__)\.py", name), "L1", name, 0)
        self.want(stem not in dir(builtins) + UNUSED_FILES and not stem.startswith("test_"), "L14", name, 0)
        self.want(not UNUSED_WORDS.search(stem), "L14", name, 0)
        lines = text.split("\n")
        self.want(len(lines) <= 401, "L10", name, 0)
        for number, line in enumerate(lines, start=1):
            self.want(len(line) <= 120, "L10", name, number)
            self.want(all(" " <= sign <= "~" for sign in line), "L14", name, number)
            self.want(not UNUSED_WORDS.search(line), "L17", name, number)
        for token in tokenize.generate_tokens(io.StringIO(text).readline):
            if token.type == tokenize.STRING:
                plain = re.sub(r"\\[nt\\\"']", "", token.string)
                self.want("\\" not in plain and "%" not in plain, "L27", name, token.start[0])

    def look_at_top(self, name, tree):
        bound = []
        for place, part in enumerate(tree.body):
            if place == 0 and isinstance(part, ast.Expr) and isinstance(part.value, ast.Constant):
                continue
            if isinstance(part, ast.ImportFrom):
                bound.extend([alias.asname or alias.name for alias in part.names])
            elif isinstance(part, ast.Assign) and isinstance(part.targets[0], ast.Name):
                self.want(is_plain(part.value, bound), "L3", name, part)
                bound.append(part.targets[0].id)
            elif isinstance(part, (ast.FunctionDef, ast.ClassDef)):
                bound.append(part.name)
            else:
                self.want(False, "L3", name, part)
        self.want(len(bound) == len(set(bound)), "L15", name, 0)
        for node in ast.walk(tree):
            if isinstance(node, ast.ImportFrom):
                self.want(node in tree.body and node.level == 0, "L2", name, node)
            if isinstance(node, ast.ClassDef):
                self.want(node in tree.body, "L15", name, node)

    def look_at_names(self, name, tree):
        taken = [part.name for part in tree.body if isinstance(part, ast.ClassDef)]
        for part in tree.body:
            if isinstance(part, ast.ImportFrom):
                taken.extend([alias.asname or alias.name for alias in part.names])
        for node in ast.walk(tree):
            stored = ""
            if isinstance(node, ast.arg):
                stored = node.arg
            elif isinstance(node, (ast.FunctionDef, ast.ClassDef)) and node.name != "__init__":
                self.want(PLAIN_NAME.fullmatch(node.name), "L12", name, node)
                self.want(node.name not in UNUSED_NAMES, "L17", name, node)
            elif isinstance(node, ast.Name):
                stored = node.id if isinstance(node.ctx, ast.Store) else ""
                self.want(node.id not in UNUSED_NAMES, "L17", name, node)
                self.want(node.id not in dir(builtins) or node.id in BUILTINS, "L8", name, node)
            elif isinstance(node, ast.Attribute):
                self.want(node.attr not in UNUSED_NAMES, "L17", name, node)
                own = node.attr in self.methods or node.attr in self.values
                self.want(own or node.attr in METHODS, "L25", name, node)
            if stored:
                self.want(PLAIN_NAME.fullmatch(stored), "L12", name, node)
                self.want(stored not in dir(builtins) and stored not in taken, "L15", name, node)

    def look_at_nodes(self, name, tree):
        parents = {part: node for node in ast.walk(tree) for part in ast.iter_child_nodes(node)}
        for node in ast.walk(tree):
            self.want(node.__class__.__name__ in NODES, "L6", name, node)
            self.look_at_defs(name, node)
            self.look_at_statements(name, node, parents)
            self.look_at_expressions(name, node, parents)
            self.look_at_calls(name, node, parents)
            self.look_at_sets(name, node, parents)

    def look_at_defs(self, name, node):
        if isinstance(node, (ast.FunctionDef, ast.ClassDef)):
            self.want(node.decorator_list == [], "L4", name, node)
        if isinstance(node, (ast.FunctionDef, ast.Lambda)):
            given = node.args
            self.want(not (given.vararg or given.kwarg or given.kwonlyargs or given.posonlyargs), "L4", name, node)
            self.want(all(is_plain(part, ()) for part in given.defaults), "L4", name, node)
            self.want(not [part for part in given.args if part.annotation], "L21", name, node)
        if isinstance(node, ast.FunctionDef):
            self.want(node.returns is None, "L21", name, node)
            self.want(node.end_lineno - node.lineno < 40, "L10", name, node)
            if node.name == "__init__":
                self.want(not [part for part in ast.walk(node) if isinstance(part, ast.Return)], "L28", name, node)
        if isinstance(node, ast.ClassDef):
            self.want(node.bases == [] and node.keywords == [], "L5", name, node)
            self.want(all(isinstance(part, ast.FunctionDef) for part in node.body), "L5", name, node)
            own = [part.name for part in node.body if isinstance(part, ast.FunctionDef)]
            self.want(len(own) == len(set(own)), "L18", name, node)

    def look_at_statements(self, name, node, parents):
        if isinstance(node, ast.Assign):
            self.want(len(node.targets) == 1, "L6", name, node)
            self.want(isinstance(node.targets[0], (ast.Name, ast.Attribute, ast.Subscript)), "L6", name, node)
        if isinstance(node, (ast.For, ast.While)):
            self.want(node.orelse == [], "L6", name, node)
        if isinstance(node, ast.Expr):
            top = isinstance(node.value, ast.Constant) and isinstance(node.value.value, str)
            self.want(top or isinstance(node.value, ast.Call), "L6", name, node)
        if isinstance(node, ast.Attribute) and isinstance(node.ctx, ast.Store):
            self.want(isinstance(node.value, ast.Name) and node.value.id not in self.classes, "L18", name, node)
        if isinstance(node, ast.For):
            walked = {ast.unparse(part) for part in ast.walk(node.iter) if isinstance(part, (ast.Name, ast.Attribute))}
            for part in [inner for row in node.body for inner in ast.walk(row)]:
                if isinstance(part, ast.Call) and isinstance(part.func, ast.Attribute) and part.func.attr in CHANGING:
                    self.want(ast.unparse(part.func.value) not in walked, "L23", name, part)
                if isinstance(part, ast.Subscript) and isinstance(part.ctx, ast.Store):
                    self.want(ast.unparse(part.value) not in walked, "L23", name, part)

    def look_at_expressions(self, name, node, parents):
        if isinstance(node, ast.ListComp):
            self.want(len(node.generators) == 1 and len(node.generators[0].ifs) <= 1, "L7", name, node)
        if isinstance(node, ast.Constant):
            self.want(node.value.__class__ in (int, str, bool, None.__class__), "L7", name, node)
        if isinstance(node, ast.FormattedValue):
            plain = isinstance(node.value, ast.Name) and node.conversion in (-1, ord("r")) and node.format_spec is None
            self.want(plain, "L7", name, node)
        if isinstance(node, ast.BinOp) and isinstance(node.op, ast.Pow):
            power = node.right
            self.want(isinstance(power, ast.Constant) and 0 <= power.value <= 64, "L27", name, node)
        if isinstance(node, ast.Compare):
            for sign, right in zip(node.ops, node.comparators):
                if isinstance(sign, (ast.Is, ast.IsNot)):
                    self.want(isinstance(right, ast.Constant) and right.value in (None, True, False), "L20", name, node)
        if isinstance(node, ast.Name) and node.id in self.classes and isinstance(node.ctx, ast.Load):
            parent = parents[node]
            asked = is_call_of(parent, ["isinstance"]) and node in parent.args[1:]
            self.want(isinstance(parent, ast.Call) and parent.func == node or asked, "L18", name, node)

    def look_at_calls(self, name, node, parents):
        parent = parents.get(node)
        if isinstance(node, ast.Name) and node.id in BUILTINS:
            called = isinstance(parent, ast.Call) and parent.func == node or is_call_of(parent, ["isinstance"])
            self.want(called or isinstance(parent, ast.keyword) and parent.arg == "key", "L22", name, node)
        if isinstance(node, ast.Attribute) and (node.attr in METHODS or node.attr in self.methods):
            self.want(isinstance(parent, ast.Call) and parent.func == node, "L25", name, node)
        if isinstance(node, ast.Call):
            called = node.func.id if isinstance(node.func, ast.Name) else getattr(node.func, "attr", "")
            if called in BUILTINS + METHODS:
                self.want(all(part.arg in KEYWORDS.get(called, ()) for part in node.keywords), "L22", name, node)
            if called in WALKED:
                at_once = isinstance(parent, (ast.For, ast.comprehension)) and parent.iter == node
                first = is_call_of(parent, WALKING) and parent.args[0] == node
                alone = is_call_of(parent, ["min", "max"]) and parent.args == [node]
                self.want(at_once or first or alone, "L23", name, node)

    def look_at_sets(self, name, node, parents):
        if not isinstance(node, ast.Set) and not is_call_of(node, ["set", "frozenset"]):
            return
        self.want(not isinstance(node, ast.Set), "L13", name, node)
        outer = node
        while isinstance(parents[outer], ast.BinOp):
            outer = parents[outer]
        counted = is_call_of(parents[outer], ["sorted", "len"]) and parents[outer].keywords == []
        self.want(counted or isinstance(parents[outer], ast.Compare), "L24", name, node)

    def look_at_package(self):
        self.want("__init__.py" in self.files, "L14", "__init__.py", 0)
        for method in sorted(set(self.methods)):
            self.want(method not in self.values, "L18", method, 0)
        for own in sorted((set(self.methods) | self.values) - {"__init__"}):
            self.want(PLAIN_NAME.fullmatch(own), "L12", own, 0)
            self.want(own not in OWN_NAMES_OF_VALUES, "L26", own, 0)
        self.look_at_imports()
        self.look_for_recursion()

    def look_at_imports(self):
        bound = {name: [part.name if hasattr(part, "name") else part.targets[0].id for part in tree.body
                        if isinstance(part, (ast.FunctionDef, ast.ClassDef, ast.Assign))]
                 for name, tree in self.trees.items()}
        drawn = {name: ["__init__.py"] if name != "__init__.py" else [] for name in self.trees}
        for name, tree in self.trees.items():
            for row in [node for node in ast.walk(tree) if isinstance(node, ast.ImportFrom)]:
                package, _, stem = (row.module or "").partition(".")
                source = stem + ".py"
                self.want(package == "cellmoments" and source in bound, "L2", name, row)
                self.want(all(alias.name in bound.get(source, ()) for alias in row.names), "L16", name, row)
                drawn[name].append(source)
        self.want(not circling(drawn), "L16", "files that draw from one another", 0)

    def look_for_recursion(self):
        """Nothing calls itself, in whatever many steps; methods of one name count as one."""
        called = {}
        for tree in self.trees.values():
            for node in ast.walk(tree):
                if isinstance(node, ast.FunctionDef):
                    inner = [part.func for part in ast.walk(node) if isinstance(part, ast.Call)]
                    names = [getattr(func, "id", getattr(func, "attr", "")) for func in inner]
                    called.setdefault(node.name, []).extend(names)
        self.want(not circling(called), "L11", "functions that call one another", 0)


def circling(leading):
    """Those from which one never gets to an end, where each leads to a list of others."""
    left = dict(leading)
    ready = list(left)
    while ready:
        ready = [name for name in left if not any(other in left for other in left[name])]
        left = {name: left[name] for name in left if name not in ready}
    return sorted(left)


def package_files():
    return {path.name: path.read_text(encoding="utf-8") for path in sorted(PACKAGE.glob("*.py"))}


class Package(unittest.TestCase):
    def test_rules(self):
        self.assertEqual(Walk(package_files()).faults, [])

    def test_nothing_else_lies_in_it(self):
        there = [path.name for path in PACKAGE.iterdir() if path.name != "__pycache__"]
        self.assertEqual(sorted(there), sorted(package_files()))


class WalkSees(unittest.TestCase):
    """The walk finds what goes against a rule, so that it can be relied on where it finds nothing."""

    def finds(self, rule, text, name="some.py"):
        files = {"__init__.py": "", "other.py": "GIVEN = 1\n\n\nclass Thing:\n    def __init__(self):\n        pass\n"}
        files[name] = text + "\n"
        rules = {fault.split()[0] for fault in Walk(files).faults}
        self.assertIn(rule, rules, text)

    def finds_within(self, rule, *rows):
        """The same for the rows of a function."""
        self.finds(rule, "\n".join(["def act(xs, d):"] + ["    " + row for row in rows]))

    def test_files(self):
        self.finds("L1", "", "Some.py")
        self.finds("L14", "", "tests.py")
        self.finds("L14", "", "len.py")
        self.finds("L14", "", "enum.py")
        self.finds("L14", "A = 'caf\u00e9'")
        self.finds("L10", "# " + "x" * 119)
        self.finds("L10", "\n" * 401)
        self.finds_within("L10", *["pass"] * 40)
        self.finds("L17", "# of that type")

    def test_top(self):
        self.finds("L3", "if True:\n    A = 1")
        self.finds("L3", "A = len('a')")
        self.finds("L3", "A = [1]")
        self.finds("L15", "A = 1\nA = 2")
        self.finds("L2", "from . import other")
        self.finds("L2", "from random import choice")
        self.finds_within("L2", "from cellmoments.other import GIVEN")
        self.finds("L6", "import cellmoments.other")
        self.finds("L16", "from cellmoments.other import ABSENT")
        self.finds("L16", "from cellmoments.some import A\nB = 1")
        self.finds("L16", "from cellmoments.other import GIVEN", "__init__.py")

    def test_defs(self):
        self.finds("L4", "def act(*xs):\n    pass")
        self.finds("L4", "def act(x, *, y):\n    pass")
        self.finds("L4", "def act(xs=[]):\n    pass")
        self.finds("L21", "def act(x: int):\n    pass")
        self.finds("L21", "def act(x) -> int:\n    pass")
        self.finds("L5", "class A:\n    x = 1")
        self.finds("L5", "class A(dict):\n    def act(self):\n        pass")
        self.finds("L15", "def act():\n    class A:\n        def go(self):\n            pass")
        self.finds("L18", "class A:\n    def act(self):\n        pass\n    def act(self):\n        return 1")
        self.finds("L18", "class A:\n    def __init__(self):\n        self.act = 1\n    def act(self):\n        pass")
        self.finds("L28", "class A:\n    def __init__(self):\n        return None")
        self.finds("L12", "class A:\n    def __eq__(self, other):\n        return True")
        self.finds("L26", "class A:\n    def count(self):\n        pass")
        self.finds("L11", "def act(x):\n    return other(x)\n\n\ndef other(x):\n    return act(x)")

    def test_names(self):
        self.finds_within("L12", "_ = xs")
        self.finds_within("L15", "id = xs")
        self.finds("L15", "from cellmoments.other import GIVEN\n\n\ndef act(GIVEN):\n    pass")
        self.finds_within("L8", "print(xs)")
        self.finds_within("L8", "return map(len, xs)")
        self.finds_within("L17", "return eval(xs)")
        self.finds_within("L17", "return xs.format(1)")
        self.finds_within("L25", "xs.sort()")
        self.finds_within("L25", "return xs.append")

    def test_statements(self):
        for row in ("a = b = 1", "a, b = xs", "assert xs", "del xs", "raise ValueError(1)", "yield xs", "xs[0]",
                    "a: int = 1", "return {x: 1 for x in xs}", "return {x for x in xs}", "return len((x for x in xs))",
                    "return xs / 2", "return [*xs]", "return (y := xs)"):
            self.finds_within("L6", row)
        self.finds_within("L6", "for x in xs:", "    pass", "else:", "    pass")
        self.finds_within("L6", "try:", "    pass", "finally:", "    pass")
        self.finds_within("L6", "with xs:", "    pass")

    def test_expressions(self):
        self.finds_within("L7", "return 1.5")
        self.finds_within("L7", "return b'a'")
        self.finds_within("L7", "return [x for x in xs for y in xs]")
        self.finds_within("L7", "return [x for x in xs if x if not x]")
        self.finds_within("L7", "return f'{xs[0]}'")
        self.finds_within("L20", "return xs is d")
        self.finds_within("L27", "return 2 ** xs")
        self.finds_within("L27", "return 'a%b'")
        self.finds_within("L27", r"return '\x41'")
        self.finds_within("L18", "return [Thing]")
        self.finds_within("L18", "Thing.value = 1")

    def test_calls(self):
        self.finds_within("L22", "size = len")
        self.finds_within("L22", "return int(xs, base=2)")
        self.finds_within("L22", "xs.index(value=1)")
        self.finds_within("L23", "return zip(xs, xs)")
        self.finds_within("L23", "pairs = d.items()")
        self.finds_within("L23", "for x in xs:", "    xs.append(x)")
        self.finds_within("L23", "for k, x in enumerate(xs):", "    xs[k] = x")
        self.finds_within("L13", "return {1, 2, 3}")
        self.finds_within("L24", "s = set(xs)")
        self.finds_within("L24", "for x in set(xs):", "    pass")
        self.finds_within("L24", "return sorted(set(xs), key=len)")

    def test_what_is_allowed(self):
        rows = ["from cellmoments.other import GIVEN, Thing", "", "FEW = (1, -2, (3, None))", "", "",
                "def act(xs, d, size=3):", "    made = Thing()", "    for k, x in enumerate(xs):", "        d[x] = k",
                "    while xs and made is not None:", "        xs.pop()", "    both = sorted(set(xs) | set(d))",
                "    return [x for x in both if x in set(xs)] + sorted(xs, key=lambda x: -x) + list(range(size))"]
        files = {"__init__.py": '"""A package."""\n', "some.py": "\n".join(rows) + "\n"}
        files["other.py"] = "GIVEN = 1\n\n\nclass Thing:\n    def __init__(self):\n        self.size = 10 ** 18\n"
        self.assertEqual(Walk(files).faults, [])


if __name__ == "__main__":
    unittest.main()
