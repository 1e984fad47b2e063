"""The form of the package's files: the rules of the language document that can be read off the files."""

import ast
import builtins
import re
import unittest
from pathlib import Path

PACKAGE = Path(__file__).resolve().parent.parent / "leasttests"

STATEMENTS = (
    ast.Assign, ast.AugAssign, ast.If, ast.While, ast.For, ast.Return, ast.Break, ast.Continue, ast.Pass, ast.Raise,
    ast.Try, ast.Expr, ast.FunctionDef, ast.ClassDef, ast.ImportFrom)
EXPRESSIONS = (
    ast.Constant, ast.List, ast.Tuple, ast.Dict, ast.BinOp, ast.UnaryOp, ast.BoolOp, ast.Compare, ast.IfExp, ast.Call,
    ast.Attribute, ast.Subscript, ast.Slice, ast.ListComp, ast.Name, ast.JoinedStr, ast.FormattedValue, ast.Lambda)
OWN_NAMES = set((
    "len range enumerate zip min max sum abs sorted reversed int str bool list tuple dict set frozenset isinstance ord"
    " repr any all divmod Exception ValueError TypeError KeyError IndexError LookupError ZeroDivisionError"
    " ArithmeticError OverflowError RuntimeError NotImplementedError AttributeError StopIteration").split())
METHODS = set((
    "append clear copy count endswith extend find get index insert isalnum isalpha isdigit islower isspace isupper items"
    " join keys ljust lower lstrip partition pop remove replace reverse rfind rjust rpartition rsplit rstrip setdefault"
    " split splitlines startswith strip update upper values zfill bit_length").split())
NOT_NAMES = set((
    "register mro elements open input version_info with_traceback add_note attrgetter breakpoint builtins compile"
    " copyright credits delattr dir eval exec exit gc getattr globals hasattr help id importlib license locals"
    " methodcaller os quit setattr super vars sys format format_map").split())
WORDS = (
    r"\b(type|typing|typing_extensions|enum|Enum|IntEnum|StrEnum|Flag|IntFlag|Generic|Protocol|ABC|ABCMeta|namedtuple"
    r"|NamedTuple|TypedDict|TYPE_CHECKING|abstractmethod)\b|dataclass|overload|contextmanager")
WALKED = ("zip", "enumerate", "reversed", "range")
WALKERS = ("list", "tuple", "dict", "sorted", "sum", "any", "all", "enumerate", "zip", "min", "max")


def package_files():
    return sorted(path for path in PACKAGE.rglob("*") if path.is_file() and "__pycache__" not in path.parts)


def trees():
    return {path.name: ast.parse(path.read_text(encoding="utf-8")) for path in package_files()}


def functions(tree):
    return [node for node in ast.walk(tree) if isinstance(node, ast.FunctionDef)]


def imports(tree):
    return [node for node in tree.body if isinstance(node, ast.ImportFrom)]


def top_names(tree):
    found = []
    for node in tree.body:
        if isinstance(node, (ast.FunctionDef, ast.ClassDef)):
            found.append(node.name)
        elif isinstance(node, ast.Assign):
            found.append(node.targets[0].id)
        elif isinstance(node, ast.ImportFrom):
            found.extend(alias.name for alias in node.names)
    return found


def bound_names(function):
    found = {arg.arg for arg in function.args.args}
    found |= {node.id for node in ast.walk(function) if isinstance(node, ast.Name) and isinstance(node.ctx, ast.Store)}
    return found


def parents(tree):
    return {child: node for node in ast.walk(tree) for child in ast.iter_child_nodes(node)}


class Files(unittest.TestCase):
    def test_files(self):
        names = [path.name for path in package_files()]
        self.assertIn("__init__.py", names)
        self.assertIn("bench.py", names)
        for path in package_files():
            self.assertEqual(path.parent, PACKAGE)
            self.assertRegex(path.name, r"^([a-z][a-z0-9_]*|__init__)\.py$")
            self.assertNotIn(path.stem, dir(builtins))
            self.assertNotRegex(path.stem, r"^test|^site|^conftest$|customize$")

    def test_signs_and_sizes(self):
        for path in package_files():
            text = path.read_text(encoding="utf-8")
            self.assertRegex(text, r"\A[ -~\n]*\Z", path.name)
            lines = text.split("\n")
            self.assertLessEqual(len(lines), 400, path.name)
            self.assertLessEqual(max(len(line) for line in lines), 120, path.name)
            self.assertIsNone(re.search(WORDS, text), path.name)

    def test_functions_are_short(self):
        for name, tree in trees().items():
            for node in functions(tree):
                self.assertLessEqual(node.end_lineno - node.lineno + 1, 40, (name, node.name))


class Tops(unittest.TestCase):
    def test_the_top_of_a_module(self):
        for name, tree in trees().items():
            self.assertIsNotNone(ast.get_docstring(tree), name)
            for node in tree.body[1:]:
                self.assertIsInstance(node, (ast.ImportFrom, ast.Assign, ast.FunctionDef, ast.ClassDef), name)
            found = top_names(tree)
            self.assertEqual(len(found), len(set(found)), name)

    def test_imports_come_from_the_file_that_defines_the_name(self):
        every = trees()
        drawn = {}
        for name, tree in every.items():
            drawn[name] = set()
            for node in imports(tree):
                self.assertEqual(node.level, 0)
                self.assertRegex(node.module, r"^leasttests\.[a-z]+$", name)
                source = node.module.split(".")[1] + ".py"
                drawn[name].add(source)
                defined = set(top_names(every[source])) - {a.name for n in imports(every[source]) for a in n.names}
                for alias in node.names:
                    self.assertIsNone(alias.asname)
                    self.assertIn(alias.name, defined, name)
        self.assertEqual(imports(every["__init__.py"]), [])
        while drawn:
            free = [name for name in drawn if not drawn[name] & set(drawn)]
            self.assertTrue(free, "files that draw from one another: " + ", ".join(drawn))
            for name in free:
                drawn.pop(name)

    def test_imports_are_used(self):
        for name, tree in trees().items():
            used = {node.id for node in ast.walk(tree) if isinstance(node, ast.Name)}
            for node in imports(tree):
                for alias in node.names:
                    self.assertIn(alias.name, used, name)

    def test_tops_hold_no_lists_or_dicts(self):
        for name, tree in trees().items():
            for node in tree.body:
                if isinstance(node, ast.Assign):
                    for part in ast.walk(node.value):
                        self.assertNotIsInstance(part, (ast.List, ast.Dict, ast.Call, ast.ListComp), name)


class Bodies(unittest.TestCase):
    def test_statements_and_expressions(self):
        for name, tree in trees().items():
            for node in ast.walk(tree):
                line = (name, getattr(node, "lineno", None))
                if isinstance(node, ast.stmt):
                    self.assertIsInstance(node, STATEMENTS, line)
                if isinstance(node, ast.expr):
                    self.assertIsInstance(node, EXPRESSIONS, line)
                if isinstance(node, (ast.For, ast.While)):
                    self.assertFalse(node.orelse, line)
                if isinstance(node, ast.Assign):
                    self.assertEqual(len(node.targets), 1, line)
                if isinstance(node, ast.ListComp):
                    self.assertEqual(len(node.generators), 1, line)
                    self.assertLessEqual(len(node.generators[0].ifs), 1, line)
                if isinstance(node, ast.Constant):
                    self.assertIsInstance(node.value, (int, str, type(None)), line)
                if isinstance(node, ast.operator):
                    self.assertNotIsInstance(node, (ast.Div, ast.MatMult, ast.Pow), line)
                if isinstance(node, ast.Compare):
                    for op, right in zip(node.ops, node.comparators):
                        if isinstance(op, (ast.Is, ast.IsNot)):
                            self.assertIsInstance(right, ast.Constant, line)

    def test_a_row_by_itself_is_a_call(self):
        for name, tree in trees().items():
            for node in ast.walk(tree):
                if isinstance(node, ast.Expr) and node is not tree.body[0]:
                    self.assertIsInstance(node.value, ast.Call, (name, node.lineno))

    def test_functions_are_plain(self):
        for name, tree in trees().items():
            for node in functions(tree):
                args = node.args
                self.assertFalse(args.vararg or args.kwarg or args.kwonlyargs or args.posonlyargs, name)
                self.assertFalse(node.decorator_list or node.returns, name)
                self.assertFalse([arg for arg in args.args if arg.annotation], name)

    def test_classes_are_plain(self):
        for name, tree in trees().items():
            for node in ast.walk(tree):
                if isinstance(node, ast.ClassDef):
                    self.assertIn(node, tree.body, name)
                    self.assertFalse(node.decorator_list or node.bases or node.keywords, name)
                    for part in node.body:
                        self.assertIsInstance(part, ast.FunctionDef, name)


class Names(unittest.TestCase):
    def test_names_are_plain_and_bound(self):
        for name, tree in trees().items():
            known = set(top_names(tree))
            for node in functions(tree):
                known |= bound_names(node)
            for node in ast.walk(tree):
                if isinstance(node, ast.Name):
                    self.assertRegex(node.id, r"^[A-Za-z][A-Za-z0-9_]*$", name)
                    self.assertNotIn(node.id, NOT_NAMES, name)
                    self.assertTrue(node.id in known or node.id in OWN_NAMES, (name, node.id))

    def test_no_local_hides_another_name(self):
        for name, tree in trees().items():
            taken = {node.name for node in tree.body if isinstance(node, ast.ClassDef)}
            taken |= {alias.name for node in imports(tree) for alias in node.names}
            for node in functions(tree):
                self.assertFalse(bound_names(node) & taken, (name, node.name))
                self.assertFalse(bound_names(node) & set(dir(builtins)), (name, node.name))

    def test_attributes(self):
        values = set()
        for tree in trees().values():
            values |= {node.attr for node in ast.walk(tree)
                       if isinstance(node, ast.Attribute) and isinstance(node.ctx, ast.Store)}
        foreign = set()
        for kind in (str, int, list, dict, set, bytes, tuple):
            foreign |= set(dir(kind))
        self.assertFalse(values & foreign)
        self.assertFalse(values & NOT_NAMES)
        for name, tree in trees().items():
            up = parents(tree)
            for node in ast.walk(tree):
                if isinstance(node, ast.Attribute) and node.attr not in values:
                    self.assertIn(node.attr, METHODS, (name, node.lineno))
                    self.assertTrue(isinstance(up[node], ast.Call) and up[node].func is node, (name, node.lineno))

    def test_what_is_walked_on_the_spot(self):
        for name, tree in trees().items():
            up = parents(tree)
            for node in ast.walk(tree):
                if not isinstance(node, ast.Call):
                    continue
                walked = isinstance(node.func, ast.Name) and node.func.id in WALKED
                walked |= isinstance(node.func, ast.Attribute) and node.func.attr in ("items", "keys", "values")
                if walked:
                    over = up[node]
                    looped = isinstance(over, (ast.For, ast.comprehension)) and over.iter is node
                    within = (isinstance(over, ast.Call) and isinstance(over.func, ast.Name)
                              and over.func.id in WALKERS and over.args[0] is node)
                    self.assertTrue(looped or within, (name, node.lineno))

    def test_sets_are_sorted_or_counted_at_once(self):
        for name, tree in trees().items():
            up = parents(tree)
            for node in ast.walk(tree):
                if isinstance(node, ast.Call) and isinstance(node.func, ast.Name) and node.func.id == "set":
                    over = up[node]
                    self.assertTrue(isinstance(over, ast.Call) and over.func.id in ("sorted", "len"), (name, node.lineno))


if __name__ == "__main__":
    unittest.main()
