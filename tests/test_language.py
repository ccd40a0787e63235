"""Whether the package keeps to the part of Python that it is to be written in, as far as a walk of it can tell."""

import ast
import builtins
import pathlib
import re
import unittest

PACKAGE = pathlib.Path(__file__).resolve().parent.parent / "widekind"

STATEMENTS = (
    ast.FunctionDef, ast.ClassDef, ast.Import, ast.ImportFrom, ast.Assign, ast.AugAssign, ast.If, ast.While, ast.For,
    ast.Return, ast.Break, ast.Continue, ast.Pass, ast.Raise, ast.Try, ast.Expr,
)
NO_EXPRESSIONS = (
    ast.SetComp, ast.DictComp, ast.GeneratorExp, ast.NamedExpr, ast.Starred, ast.Await, ast.Yield, ast.YieldFrom,
    ast.Div, ast.MatMult, ast.Set,
)
BUILT_IN = set("""
    len range enumerate zip min max sum abs sorted reversed int str bool list tuple dict set isinstance ord repr any
    all divmod Exception ValueError TypeError KeyError IndexError LookupError ZeroDivisionError ArithmeticError
    OverflowError RuntimeError NotImplementedError AttributeError StopIteration
""".split())
METHODS = set("""
    append clear copy count endswith extend find get index insert isalnum isalpha isdigit islower isspace isupper items
    join keys ljust lower lstrip partition pop remove replace reverse rfind rjust rpartition rsplit rstrip setdefault
    split splitlines startswith strip update upper values zfill bit_length
""".split())
OWN_OF_PYTHON = {name for kind in (str, int, list, tuple, dict, set, bytes) for name in dir(kind)}
NO_WORDS = set("""
    type typing typing_extensions enum Enum IntEnum StrEnum Flag IntFlag Generic Protocol ABC ABCMeta namedtuple
    NamedTuple TypedDict TYPE_CHECKING abstractmethod
""".split())
NO_NAMES = set("""
    register mro elements open input version_info with_traceback add_note format format_map
""".split())
DUNDERS = {"__init__", "__eq__", "__repr__", "__str__", "__len__"}
NO_FILES = {"test", "tests", "testing", "site", "conftest", "sitecustomize", "usercustomize"}


class Language(unittest.TestCase):
    @classmethod
    def setUpClass(cls):
        cls.texts = {path.name: path.read_bytes().decode("ascii") for path in sorted(PACKAGE.glob("*.py"))}
        cls.trees = {name: ast.parse(text) for name, text in cls.texts.items()}

    def each(self, *kinds):
        for name, tree in self.trees.items():
            for node in ast.walk(tree):
                if isinstance(node, kinds):
                    yield f"{name}:{getattr(node, 'lineno', 0)}", node

    def test_files(self):
        for path in PACKAGE.iterdir():
            if path.name == "__pycache__":
                continue
            self.assertRegex(path.name, r"\A(__init__|__main__|[a-z][a-z0-9_]*)\.py\Z")
            self.assertNotIn(path.stem, NO_FILES | NO_WORDS | set(dir(builtins)))
        self.assertIn("__init__.py", self.texts)

    def test_sizes_and_signs(self):
        for name, text in self.texts.items():
            self.assertRegex(text, r"\A[ -~\n]*\Z", name)
            rows = text.split("\n")
            self.assertLessEqual(len(rows), 400, name)
            self.assertLessEqual(max(map(len, rows)), 120, name)
        for place, node in self.each(ast.FunctionDef):
            self.assertLessEqual(node.end_lineno - node.lineno + 1, 40, place)

    def test_words(self):
        for name, text in self.texts.items():
            words = set(re.findall(r"\w+", text))
            self.assertFalse(words & NO_WORDS, name)
            self.assertFalse(words & NO_NAMES, name)
            self.assertNotRegex(text, "dataclass|overload|contextmanager", name)

    def test_statements_and_expressions(self):
        for place, node in self.each(ast.stmt):
            self.assertIsInstance(node, STATEMENTS, place)
        for place, node in self.each(*NO_EXPRESSIONS):
            self.fail(f"{place}: {node}")
        for place, node in self.each(ast.Assign):
            self.assertEqual(len(node.targets), 1, place)
            self.assertIsInstance(node.targets[0], (ast.Name, ast.Attribute, ast.Subscript), place)
        for place, node in self.each(ast.For, ast.While):
            self.assertFalse(node.orelse, place)
        for place, node in self.each(ast.Try):
            self.assertFalse(node.finalbody, place)
        for place, node in self.each(ast.ListComp):
            self.assertEqual(len(node.generators), 1, place)
            self.assertLessEqual(len(node.generators[0].ifs), 1, place)

    def test_texts_by_themselves_stand_at_the_top_alone(self):
        for name, tree in self.trees.items():
            tops = [node for node in tree.body if isinstance(node, ast.Expr)]
            self.assertEqual(tops, tree.body[:1], name)
            self.assertIsNotNone(ast.get_docstring(tree), name)
            for node in ast.walk(tree):
                if isinstance(node, ast.Expr) and node not in tops:
                    self.assertIsInstance(node.value, ast.Call, f"{name}:{node.lineno}")

    def test_values(self):
        for place, node in self.each(ast.Constant):
            self.assertIsInstance(node.value, (int, str, type(None)), place)
            if isinstance(node.value, str):
                self.assertNotIn("%", node.value, place)
        for place, node in self.each(ast.Compare):
            for sign, right in zip(node.ops, node.comparators):
                if isinstance(sign, (ast.Is, ast.IsNot)):
                    self.assertIsInstance(right, ast.Constant, place)
                    self.assertIn(right.value, (None, True, False), place)

    def test_defs_and_classes(self):
        for place, node in self.each(ast.FunctionDef, ast.Lambda):
            given = node.args
            self.assertFalse(given.vararg or given.kwarg or given.kwonlyargs or given.posonlyargs, place)
        for place, node in self.each(ast.FunctionDef, ast.ClassDef):
            self.assertFalse(node.decorator_list, place)
        for place, node in self.each(ast.ClassDef):
            self.assertLessEqual(len(node.bases), 1, place)
            for part in node.body:
                self.assertIsInstance(part, (ast.FunctionDef, ast.Pass), place)

    def test_names(self):
        for place, node in self.each(ast.Name):
            self.assertFalse(node.id.startswith("_"), place)
            if node.id in dir(builtins):
                self.assertIn(node.id, BUILT_IN, place)
                self.assertIsInstance(node.ctx, ast.Load, place)
        for place, node in self.each(ast.arg):
            self.assertNotIn(node.arg, dir(builtins), place)
            self.assertFalse(node.arg.startswith("_"), place)
        for place, node in self.each(ast.FunctionDef, ast.ClassDef):
            self.assertTrue(node.name in DUNDERS or not node.name.startswith("_"), place)

    def test_methods_and_values_of_objects(self):
        own = {part.name for _, node in self.each(ast.ClassDef) for part in node.body if hasattr(part, "name")}
        stored = {node.attr for _, node in self.each(ast.Attribute) if isinstance(node.ctx, ast.Store)}
        self.assertFalse(own & stored)
        self.assertFalse((own | stored) & OWN_OF_PYTHON - DUNDERS)
        called = {id(node.func) for _, node in self.each(ast.Call)}
        for place, node in self.each(ast.Attribute):
            self.assertIn(node.attr, (own | METHODS) if id(node) in called else stored, place)

    def test_what_is_walked_once(self):
        once = {"zip", "enumerate", "reversed", "range"}
        takers = {"list", "tuple", "dict", "sorted", "sum", "any", "all", "enumerate", "zip", "min", "max"}
        walked = set()
        for _, node in self.each(ast.For, ast.comprehension):
            walked.add(id(node.iter))
        for _, node in self.each(ast.Call):
            if isinstance(node.func, ast.Name) and node.func.id in takers:
                walked.update(id(given) for given in node.args)
        for place, node in self.each(ast.Call):
            called = node.func
            if isinstance(called, ast.Name) and called.id in once:
                self.assertIn(id(node), walked, place)
            if isinstance(called, ast.Attribute) and called.attr in ("items", "keys", "values"):
                self.assertIn(id(node), walked, place)
            self.assertFalse(isinstance(called, ast.Name) and called.id in ("set", "frozenset", "chr"), place)
            if isinstance(called, ast.Name) and called.id in BUILT_IN or isinstance(called, ast.Attribute):
                self.assertFalse(node.keywords, place)

    def test_what_stands_at_the_top_is_only_read(self):
        for name, tree in self.trees.items():
            tops = {part.targets[0].id for part in tree.body if isinstance(part, ast.Assign)}
            read = set()
            for node in ast.walk(tree):
                if isinstance(node, ast.Subscript) and isinstance(node.ctx, ast.Load):
                    read.add(id(node.value))
                elif isinstance(node, ast.Compare):
                    read.update(id(right) for right in node.comparators)
            for node in ast.walk(tree):
                if isinstance(node, ast.Name) and node.id in tops and isinstance(node.ctx, ast.Load):
                    self.assertIn(id(node), read, f"{name}:{node.lineno}")

    def test_locals_are_called_like_no_import_and_no_class(self):
        for name, tree in self.trees.items():
            taken = {part.name for part in tree.body if isinstance(part, (ast.ClassDef, ast.FunctionDef))}
            for node in ast.walk(tree):
                if isinstance(node, ast.ImportFrom):
                    taken.update(alias.name for alias in node.names)
            for node in ast.walk(tree):
                if isinstance(node, ast.arg):
                    self.assertNotIn(node.arg, taken, f"{name}:{node.lineno}")
                elif isinstance(node, ast.Name) and isinstance(node.ctx, ast.Store):
                    self.assertNotIn(node.id, taken, f"{name}:{node.lineno}")

    def test_no_def_calls_itself(self):
        # Pieces and kinds may lie thousands deep in one another.
        for place, node in self.each(ast.FunctionDef):
            for each in ast.walk(node):
                if isinstance(each, ast.Call):
                    called = each.func.attr if isinstance(each.func, ast.Attribute) else each.func.id
                    self.assertNotEqual(called, node.name, place)

    def test_imports(self):
        drawn = {}
        for name, tree in self.trees.items():
            drawn[name] = []
            for node in ast.walk(tree):
                self.assertNotIsInstance(node, ast.Import, name)
                if isinstance(node, ast.ImportFrom):
                    self.assertIn(node, tree.body, name)
                    self.assertEqual(node.level, 0, name)
                    self.assertTrue(node.module.startswith("widekind."), name)
                    source = node.module.split(".", 1)[1] + ".py"
                    there = [part.name for part in self.trees[source].body if hasattr(part, "name")]
                    for alias in node.names:
                        self.assertIn(alias.name, there, name)
                    drawn[name].append(source)
        while drawn:
            free = [name for name in drawn if not any(source in drawn for source in drawn[name])]
            self.assertTrue(free, f"these draw from one another: {sorted(drawn)}")
            drawn = {name: drawn[name] for name in drawn if name not in free}


if __name__ == "__main__":
    unittest.main()
