"""The rules of LANGUAGE.md that can be seen in the text of the package; the numbers are those of the rules."""

import ast
import builtins
import pathlib
import re
import unittest

FOLDER = pathlib.Path(__file__).resolve().parent.parent / "rebut"
FILES = sorted(FOLDER.glob("*.py"))
BUILTINS = set("""len range enumerate zip min max sum abs sorted reversed int str bool bytes list tuple dict set frozenset
    isinstance ord repr any all divmod pow map iter next type getattr hasattr setattr super property staticmethod
    classmethod Exception ValueError TypeError KeyError IndexError LookupError ZeroDivisionError ArithmeticError
    OverflowError RuntimeError NotImplementedError AttributeError StopIteration NotImplemented""".split())
METHODS = set("""append clear copy count endswith extend find get index insert isalnum isalpha isdigit islower isspace
    isupper items join keys ljust lower lstrip partition pop remove replace reverse rfind rjust rpartition rsplit rstrip
    setdefault split splitlines startswith strip update upper values zfill bit_length title capitalize swapcase casefold
    center expandtabs removeprefix removesuffix rindex isascii isdecimal isnumeric istitle isidentifier isprintable add
    discard sort""".split())
BARRED = set("register mro elements open input law version_info with_traceback add_note".split())
BARRED_NAMES = BARRED | set("""attrgetter breakpoint builtins compile copyright credits delattr dir eval exec exit gc
    getattr globals hasattr help id importlib license locals methodcaller os quit setattr super type vars sys""".split())
BARRED_WORDS = set("""typing typing_extensions enum Enum IntEnum StrEnum Flag IntFlag Generic Protocol ABC ABCMeta
    namedtuple NamedTuple TypedDict TYPE_CHECKING abstractmethod dataclass overload contextmanager""".split())
BARRED_ATTRIBUTES = set("""items keys values pop update append clear extend insert remove reverse setdefault sort args
    encode decode hex fromhex format as_integer_ratio bit_count conjugate from_bytes is_integer to_bytes""".split())
STATEMENTS = (ast.Assign, ast.AugAssign, ast.AnnAssign, ast.If, ast.While, ast.For, ast.Return, ast.Break, ast.Continue,
              ast.Pass, ast.Raise, ast.Assert, ast.Delete, ast.Nonlocal, ast.Match, ast.With, ast.Try, ast.Expr,
              ast.FunctionDef, ast.ClassDef, ast.ImportFrom)


def trees():
    return [(path.name, path.read_text("utf-8"), ast.parse(path.read_text("utf-8"))) for path in FILES]


def nodes(tree, *kinds):
    return [node for node in ast.walk(tree) if isinstance(node, kinds)]


def bound_names(tree):
    """All names of variables, parameters, functions, classes and imports."""
    found = [node.id for node in nodes(tree, ast.Name) if isinstance(node.ctx, ast.Store)]
    found += [node.arg for node in nodes(tree, ast.arg)]
    found += [node.name for node in nodes(tree, ast.ClassDef)]
    found += [node.name for node in nodes(tree, ast.ExceptHandler, ast.MatchAs, ast.MatchStar) if node.name]
    methods = {id(row) for node in nodes(tree, ast.ClassDef) for row in node.body}
    found += [node.name for node in nodes(tree, ast.FunctionDef) if id(node) not in methods]
    return found + [name.asname or name.name for node in nodes(tree, ast.ImportFrom) for name in node.names]


def top_names(tree):
    found = {row.name for row in tree.body if isinstance(row, (ast.FunctionDef, ast.ClassDef))}
    return found | {row.targets[0].id for row in tree.body if isinstance(row, ast.Assign)}


class Language(unittest.TestCase):
    def test_files(self):
        self.assertTrue((FOLDER / "__init__.py").exists())
        for path in FOLDER.iterdir():
            if path.name != "__pycache__":
                self.assertRegex(path.name, r"^([a-z][a-z0-9_]*|__init__|__main__)\.py$", "L1 L14")
        for name, text, _ in trees():
            self.assertLessEqual(len(text.splitlines()), 399, f"L10 {name}")
            for at, line in enumerate(text.split("\n"), 1):
                self.assertLessEqual(len(line), 120, f"L10 {name} {at}")
                self.assertTrue(all(" " <= sign <= "~" for sign in line), f"L14 {name} {at}")
                self.assertNotIn("_wall", line, f"L12 {name} {at}")

    def test_functions(self):
        for name, _, tree in trees():
            for node in nodes(tree, ast.FunctionDef):
                where = f"{name} {node.name}"
                self.assertLessEqual(node.end_lineno - node.lineno + 1, 40, f"L10 {where}")
                for mark in node.decorator_list:
                    self.assertIn(getattr(mark, "id", "setter"), ("property", "staticmethod", "classmethod", "setter"))
                for value in node.args.defaults + [row for row in node.args.kw_defaults if row]:
                    self.assertFalse(nodes(value, ast.List, ast.Dict, ast.Call), f"L4 {where}")
            for node in nodes(tree, ast.stmt):
                self.assertIsInstance(node, STATEMENTS, f"L6 {name}")

    def test_imports(self):
        exported = {name[:-3]: top_names(tree) for name, _, tree in trees()}
        uses = {}
        for name, _, tree in trees():
            rows = [row for row in tree.body if not isinstance(row, ast.Expr)]
            first = [row for row in rows if isinstance(row, ast.ImportFrom)]
            self.assertEqual(first, rows[:len(first)], f"L2 {name}")
            self.assertEqual(len(nodes(tree, ast.ImportFrom)), len(first), f"L2 {name}")
            self.assertFalse(nodes(tree, ast.Import), f"L2 {name}")
            for row in first:
                self.assertEqual((row.level, row.module.split(".")[0]), (0, "rebut"), f"L2 {name}")
                for alias in row.names:
                    self.assertIn(alias.name, exported[row.module.split(".")[1]], f"L16 {name}")
                    used = [node.id for node in nodes(tree, ast.Name)]
                    self.assertIn(alias.name, used, f"{name} does not use what it imports")
            uses[name[:-3]] = {row.module.split(".")[1] for row in first}
        while uses:
            free = [name for name in uses if not uses[name] & set(uses)]
            self.assertTrue(free, f"L16 files import each other: {sorted(uses)}")
            uses = {name: uses[name] for name in uses if name not in free}

    def test_module_level(self):
        plain = (ast.Constant, ast.Tuple, ast.List, ast.Dict, ast.Name, ast.Load, ast.UnaryOp, ast.USub, ast.BinOp,
                 ast.operator)
        for name, _, tree in trees():
            self.assertTrue(ast.get_docstring(tree), name)
            for row in tree.body[1:]:
                self.assertIsInstance(row, (ast.ImportFrom, ast.FunctionDef, ast.ClassDef, ast.Assign), f"L3 {name}")
                if isinstance(row, ast.Assign):
                    self.assertEqual(len(row.targets), 1, f"L3 {name}")
                    self.assertIsInstance(row.targets[0], ast.Name, f"L3 {name}")
                    self.assertTrue(all(isinstance(node, plain) for node in ast.walk(row.value)), f"L3 {name}")
            names = [row.name for row in tree.body if isinstance(row, (ast.FunctionDef, ast.ClassDef))]
            names += [row.targets[0].id for row in tree.body if isinstance(row, ast.Assign)]
            names += [alias.name for row in tree.body if isinstance(row, ast.ImportFrom) for alias in row.names]
            self.assertEqual(len(names), len(set(names)), f"L15 {name}")

    def test_names(self):
        for name, text, tree in trees():
            taken = {alias.name for row in tree.body if isinstance(row, ast.ImportFrom) for alias in row.names}
            taken |= {row.name for row in tree.body if isinstance(row, ast.ClassDef)}
            bound = bound_names(tree)
            for word in bound:
                self.assertFalse(word != "_" and hasattr(builtins, word), f"L15 {name} {word}")
                self.assertNotIn(word, BARRED_NAMES, f"L17 {name}")
                self.assertTrue(re.fullmatch(r"_?[A-Za-z][A-Za-z0-9_]*|_", word), f"L12 {name} {word}")
            for node in nodes(tree, ast.FunctionDef, ast.Lambda):
                inside = {row.id for row in nodes(node, ast.Name) if isinstance(row.ctx, ast.Store)}
                inside |= {row.arg for row in nodes(node, ast.arg)}
                self.assertFalse(inside & taken, f"L15 {name}")
            known = set(bound) | BUILTINS
            for node in nodes(tree, ast.Name):
                self.assertIn(node.id, known, f"L8 {name} {node.lineno}")
                if isinstance(node.ctx, ast.Load):
                    self.assertNotEqual(node.id, "_", f"L12 {name} {node.lineno}")
            for node in nodes(tree, ast.Attribute):
                self.assertNotIn(node.attr, BARRED, f"L17 {name}")
                self.assertFalse(node.attr.startswith("__") and node.attr != "__init__", f"L12 {name} {node.attr}")
            for word in re.findall(r"[A-Za-z_]+", text):
                self.assertNotIn(word, BARRED_WORDS, f"L17 {name}")

    def test_methods(self):
        own = {row.name for _, _, tree in trees() for node in nodes(tree, ast.ClassDef) for row in node.body
               if isinstance(row, ast.FunctionDef)}
        for name, _, tree in trees():
            for node in nodes(tree, ast.Call):
                if isinstance(node.func, ast.Attribute):
                    self.assertIn(node.func.attr, own | METHODS, f"L25 {name} {node.lineno}")
            for node in nodes(tree, ast.ClassDef):
                for row in node.body:
                    self.assertIsInstance(row, (ast.FunctionDef, ast.Expr, ast.Assign), f"L5 {name}")

    def test_attributes(self):
        """L18 and L26: what attributes are not called, and that none is a method of its class or one above."""
        methods = {}
        bases = {}
        attributes = {}
        for name, _, tree in trees():
            for node in nodes(tree, ast.ClassDef):
                self.assertNotIn(node.name, methods, f"{name} {node.name}")
                methods[node.name] = {row.name for row in node.body if isinstance(row, ast.FunctionDef)}
                bases[node.name] = [base.id for base in node.bases]
                attributes[node.name] = {row.attr for row in nodes(node, ast.Attribute) if isinstance(row.ctx, ast.Store)}
                self.assertFalse(attributes[node.name] & BARRED_ATTRIBUTES, f"L26 {name} {node.name}")
        for name in methods:
            above = [name]
            while above:
                other = above.pop()
                self.assertFalse(attributes[name] & methods.get(other, set()), f"L18 {name}")
                self.assertFalse(attributes.get(other, set()) & methods[name], f"L18 {name}")
                above.extend(bases.get(other, []))
        # L18 lets other classes share such names under some conditions; here none do.
        self.assertFalse(set().union(*methods.values()) & set().union(*attributes.values()), "L18")
        # L24: sets that are stored are not told from objects with these methods.
        if {"add", "discard"} & set().union(*methods.values()):
            for name, _, tree in trees():
                stored = {node.targets[0].id for node in nodes(tree, ast.Assign) if isinstance(node.targets[0], ast.Name)
                          and (isinstance(node.value, (ast.Set, ast.SetComp)) or getattr(getattr(node.value, "func", 0), "id", "")
                               == "set")}
                for node in nodes(tree, ast.Attribute):
                    if node.attr in ("add", "discard") and isinstance(node.value, ast.Name):
                        self.assertNotIn(node.value.id, stored, f"L24 {name} {node.lineno}")

    def test_values(self):
        for name, _, tree in trees():
            for node in ast.walk(tree):
                where = f"{name} {getattr(node, 'lineno', '')}"
                self.assertNotIsInstance(node, (ast.Global, ast.AsyncFunctionDef, ast.Await, ast.Div, ast.MatMult,
                                                ast.GeneratorExp, ast.Yield, ast.YieldFrom), where)
                if isinstance(node, ast.Constant):
                    self.assertNotIsInstance(node.value, (float, complex), f"L7 {where}")
                    if isinstance(node.value, str) and "\n" not in node.value:
                        self.assertNotIn("%", node.value, f"L27 {where}")
                if isinstance(node, ast.BinOp) and isinstance(node.op, ast.Pow):
                    self.assertIsInstance(node.right, ast.Constant, f"L27 {where}")
                if isinstance(node, ast.Compare):
                    for sign, right in zip(node.ops, node.comparators):
                        if isinstance(sign, (ast.Is, ast.IsNot)):
                            self.assertIsInstance(right, ast.Constant, f"L20 {where}")

    def test_sets_and_iterators(self):
        """L23 and L24: sets stand in sorted, in len, behind `in` or in an operation; iterators are used at once."""
        at_once = {"list", "tuple", "dict", "sorted", "sum", "any", "all", "enumerate", "zip", "min", "max", "reversed"}
        for name, _, tree in trees():
            above = {child: node for node in ast.walk(tree) for child in ast.iter_child_nodes(node)}
            for node in ast.walk(tree):
                called = node.func.id if isinstance(node, ast.Call) and isinstance(node.func, ast.Name) else ""
                where = f"{name} {getattr(node, 'lineno', '')}"
                outer = above.get(node)
                while isinstance(outer, ast.BinOp):
                    outer = above[outer]
                reader = outer.func.id if isinstance(outer, ast.Call) and isinstance(outer.func, ast.Name) else ""
                if isinstance(node, (ast.Set, ast.SetComp)) or called in ("set", "frozenset"):
                    self.assertTrue(reader in ("sorted", "len") or isinstance(outer, (ast.Compare, ast.Assign)),
                                    f"L24 {where}")
                if called in ("range", "zip", "enumerate", "reversed", "map"):
                    self.assertTrue(reader in at_once or isinstance(outer, (ast.For, ast.comprehension, ast.Compare)),
                                    f"L23 {where}")
