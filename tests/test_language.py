"""The form of the package's code: those rules of ../shared/LANGUAGE.md that a look at the files can tell."""

import ast
import builtins
import pathlib
import re
import unittest

import rectypes

PACKAGE = pathlib.Path(rectypes.__file__).parent

BUILT_IN = """len range enumerate zip min max sum abs sorted reversed int str bool list tuple dict set frozenset
    isinstance ord repr any all divmod Exception ValueError TypeError KeyError IndexError LookupError ZeroDivisionError
    ArithmeticError OverflowError RuntimeError NotImplementedError StopIteration""".split()

OWN_METHODS_OF_PYTHON = """append clear copy count endswith extend find get index insert isalnum isalpha isdigit islower
    isspace isupper items join keys ljust lower lstrip partition pop remove replace reverse rfind rjust rpartition
    rsplit rstrip setdefault split splitlines startswith strip update upper values zfill bit_length""".split()

UNUSED_WORDS = r"""\b(type|typing|typing_extensions|enum|Enum|IntEnum|StrEnum|Flag|IntFlag|Generic|Protocol|ABC|ABCMeta
    |namedtuple|NamedTuple|TypedDict|TYPE_CHECKING|abstractmethod)\b|dataclass|overload|contextmanager"""

UNUSED_NAMES = """register mro elements open input version_info with_traceback add_note format format_map""".split()

STATEMENTS = (ast.Assign, ast.AugAssign, ast.If, ast.While, ast.For, ast.Return, ast.Break, ast.Continue, ast.Pass,
              ast.Raise, ast.Try, ast.Expr, ast.FunctionDef, ast.ClassDef, ast.ImportFrom)

EXPRESSIONS = (ast.Constant, ast.List, ast.Tuple, ast.Dict, ast.BinOp, ast.UnaryOp, ast.BoolOp, ast.Compare, ast.IfExp,
               ast.Call, ast.Attribute, ast.Subscript, ast.Slice, ast.ListComp, ast.Name)

PLAIN_VALUES = (ast.Constant, ast.List, ast.Tuple, ast.Dict, ast.UnaryOp, ast.USub, ast.Load)


class Language(unittest.TestCase):
    def setUp(self):
        self.files = sorted(PACKAGE.glob("*.py"))
        self.texts = {path.name: path.read_text(encoding="utf-8") for path in self.files}
        self.trees = {name: ast.parse(text) for name, text in self.texts.items()}
        self.tops = [tree.body[0] for tree in self.trees.values()]

    def each(self, *kinds):
        for name, tree in self.trees.items():
            for node in ast.walk(tree):
                if isinstance(node, kinds):
                    yield f"{name}:{getattr(node, 'lineno', 0)}", node

    def test_nothing_but_files_of_code(self):
        for path in PACKAGE.iterdir():
            if path.name != "__pycache__":
                self.assertRegex(path.name, r"^(__init__|[a-z][a-z0-9_]*)\.py$")
        self.assertIn("__init__.py", self.texts)

    def test_signs_and_sizes(self):
        for name, text in self.texts.items():
            self.assertRegex(text, r"\A[ -~\n]*\Z", name)
            rows = text.split("\n")
            self.assertLessEqual(len(rows), 400, name)
            self.assertLessEqual(max(len(row) for row in rows), 120, name)
        for where, node in self.each(ast.FunctionDef):
            self.assertLessEqual(node.end_lineno - node.lineno + 1, 40, where)

    def test_words_that_stand_nowhere(self):
        for name, text in self.texts.items():
            self.assertIsNone(re.search(UNUSED_WORDS, text, re.VERBOSE), name)

    def test_statements_and_expressions(self):
        for where, node in self.each(ast.stmt):
            self.assertIsInstance(node, STATEMENTS, where)
        for where, node in self.each(ast.expr):
            self.assertIsInstance(node, EXPRESSIONS, where)
        for where, node in self.each(ast.Expr):
            self.assertTrue(isinstance(node.value, ast.Call) or node in self.tops, where)
        for where, node in self.each(ast.Assign):
            self.assertEqual(len(node.targets), 1, where)
        for where, node in self.each(ast.While, ast.For):
            self.assertEqual(node.orelse, [], where)
        for where, node in self.each(ast.ListComp):
            self.assertEqual(len(node.generators), 1, where)
        for where, node in self.each(ast.Div):
            self.fail("a division that gives no whole number")
        for where, node in self.each(ast.Compare):
            if any(isinstance(sign, (ast.Is, ast.IsNot)) for sign in node.ops):
                self.assertIsInstance(node.comparators[0], ast.Constant, where)

    def test_imports(self):
        drawn = {name: [] for name in self.trees}
        for where, node in self.each(ast.ImportFrom):
            self.assertEqual(node.level, 0, where)
            self.assertRegex(node.module, r"^rectypes\.[a-z_]+$", where)
            source = node.module.split(".")[1] + ".py"
            things = self.trees[source].body
            defined = [thing.name for thing in things if isinstance(thing, (ast.FunctionDef, ast.ClassDef))]
            defined += [thing.targets[0].id for thing in things if isinstance(thing, ast.Assign)]
            for alias in node.names:
                self.assertIn(alias.name, defined, where)
            drawn[where.split(":")[0]].append(source)
        self.assertEqual(drawn["__init__.py"], [])
        while drawn:
            ends = [name for name in drawn if not set(drawn[name]) & set(drawn)]
            self.assertNotEqual(ends, [], "files that draw from one another")
            for name in ends:
                drawn.pop(name)

    def test_the_top_of_a_file(self):
        for name, tree in self.trees.items():
            self.assertIsNotNone(ast.get_docstring(tree), name)
            bound = []
            for thing in tree.body[1:]:
                self.assertIsInstance(thing, (ast.ImportFrom, ast.FunctionDef, ast.ClassDef, ast.Assign), name)
                if isinstance(thing, ast.Assign):
                    for part in ast.walk(thing.value):
                        self.assertIsInstance(part, PLAIN_VALUES, f"{name}:{thing.lineno}")
                    bound.append(thing.targets[0].id)
                elif isinstance(thing, ast.ImportFrom):
                    bound += [alias.asname or alias.name for alias in thing.names]
                else:
                    bound.append(thing.name)
            self.assertEqual(len(bound), len(set(bound)), name)

    def test_functions_and_classes(self):
        for where, node in self.each(ast.FunctionDef):
            self.assertEqual(node.decorator_list, [], where)
            given = node.args
            self.assertFalse(given.vararg or given.kwarg or given.kwonlyargs or given.posonlyargs, where)
        for where, node in self.each(ast.ClassDef):
            self.assertEqual(node.decorator_list + node.keywords, [], where)
            for thing in node.body:
                self.assertIsInstance(thing, ast.FunctionDef, where)

    def test_names(self):
        for name, tree in self.trees.items():
            names = [node for node in ast.walk(tree) if isinstance(node, ast.Name)]
            bound = {node.id for node in names if isinstance(node.ctx, ast.Store)}
            bound |= {node.arg for node in ast.walk(tree) if isinstance(node, ast.arg)}
            bound |= {node.name for node in tree.body if isinstance(node, (ast.FunctionDef, ast.ClassDef))}
            bound |= {alias.name for node in tree.body if isinstance(node, ast.ImportFrom) for alias in node.names}
            for word in bound:
                self.assertRegex(word, r"^[A-Za-z][A-Za-z0-9_]*$", name)
                self.assertNotIn(word, dir(builtins) + UNUSED_NAMES, name)
            read = {node.id for node in names} - bound
            self.assertLessEqual(read, set(BUILT_IN), name)

    def test_methods(self):
        own = {node.name for where, node in self.each(ast.FunctionDef)}
        for where, node in self.each(ast.Call):
            if isinstance(node.func, ast.Attribute):
                self.assertIn(node.func.attr, own | set(OWN_METHODS_OF_PYTHON), where)
        for where, node in self.each(ast.Attribute):
            self.assertNotIn(node.attr, UNUSED_NAMES, where)
        values = {node.attr for where, node in self.each(ast.Attribute) if isinstance(node.ctx, ast.Store)}
        methods = {part.name for where, node in self.each(ast.ClassDef) for part in node.body
                   if isinstance(part, ast.FunctionDef)}
        self.assertEqual(values & methods, set())
        taken = {word for kind in (str, int, list, dict, set, bytes) for word in dir(kind)} - set(OWN_METHODS_OF_PYTHON)
        self.assertEqual((values | methods - {"__init__"}) & taken, set())
