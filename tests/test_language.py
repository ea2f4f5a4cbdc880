"""What LANGUAGE.md asks of the package's files, as far as it is plainly seen in them."""

import ast
import pathlib
import re
import unittest

PACKAGE = pathlib.Path(__file__).resolve().parent.parent / "resistornets"
FILES = sorted(PACKAGE.glob("*.py"))

STATEMENTS = (
    ast.Assign, ast.AugAssign, ast.If, ast.While, ast.For, ast.Return, ast.Break, ast.Continue, ast.Pass,
    ast.Raise, ast.Try, ast.Expr, ast.FunctionDef, ast.ClassDef, ast.ImportFrom,
)
NOT_EXPRESSIONS = (
    ast.Div, ast.MatMult, ast.Set, ast.SetComp, ast.DictComp, ast.GeneratorExp, ast.NamedExpr, ast.Starred,
    ast.Yield, ast.YieldFrom, ast.Await,
)
BUILT_IN = """
len range enumerate zip min max sum abs sorted reversed int str bool list tuple dict set frozenset isinstance ord
repr any all divmod Exception ValueError TypeError KeyError IndexError LookupError ZeroDivisionError ArithmeticError
OverflowError RuntimeError NotImplementedError AttributeError StopIteration
""".split()
METHODS = """
append clear copy count endswith extend find get index insert isalnum isalpha isdigit islower isspace isupper items
join keys ljust lower lstrip partition pop remove replace reverse rfind rjust rpartition rsplit rstrip setdefault split
splitlines startswith strip update upper values zfill bit_length
""".split()
NOT_WORDS = """
type typing typing_extensions enum Enum IntEnum StrEnum Flag IntFlag Generic Protocol ABC ABCMeta namedtuple NamedTuple
TypedDict TYPE_CHECKING abstractmethod
""".split()
WITH_UNDERSCORES = ("__init__", "__eq__", "__repr__", "__str__", "__len__")


def bound_names(tree):
    """Every name that the file itself gives: by a def, a class, an import, a parameter or an assignment."""
    names = []
    for node in ast.walk(tree):
        if isinstance(node, (ast.FunctionDef, ast.ClassDef)):
            names.append(node.name)
        elif isinstance(node, ast.alias):
            names.append(node.asname or node.name)
        elif isinstance(node, ast.arg):
            names.append(node.arg)
        elif isinstance(node, (ast.Name, ast.Attribute)) and isinstance(node.ctx, ast.Store):
            names.append(node.id if isinstance(node, ast.Name) else node.attr)
    return names


class Language(unittest.TestCase):
    def each(self):
        for path in FILES:
            text = path.read_text(encoding="utf-8")
            yield text, ast.parse(text)

    def test_there_are_files_and_nothing_else(self):
        others = [path.name for path in PACKAGE.iterdir() if path not in FILES and path.name != "__pycache__"]
        self.assertEqual(others, [])
        self.assertIn("nets.py", [path.name for path in FILES])

    def test_imports_are_the_packages_own(self):
        for text, tree in self.each():
            for node in ast.walk(tree):
                self.assertNotIsInstance(node, ast.Import)
                if isinstance(node, ast.ImportFrom):
                    self.assertTrue(node.level == 0 and node.module.startswith("resistornets."), node.module)
                    self.assertIn(node, tree.body)

    def test_statements_and_expressions(self):
        for text, tree in self.each():
            for node in ast.walk(tree):
                if isinstance(node, ast.stmt):
                    self.assertIsInstance(node, STATEMENTS, getattr(node, "lineno", 0))
                self.assertNotIsInstance(node, NOT_EXPRESSIONS)
                if isinstance(node, ast.Constant):
                    self.assertNotIsInstance(node.value, (float, bytes, complex))
                if isinstance(node, (ast.For, ast.While)):
                    self.assertEqual(node.orelse, [])
                if isinstance(node, (ast.FunctionDef, ast.ClassDef)):
                    self.assertEqual(node.decorator_list, [])

    def test_sizes_and_signs(self):
        for text, tree in self.each():
            self.assertLessEqual(len(text.splitlines()), 400)
            self.assertLessEqual(max(len(row) for row in text.splitlines()), 120)
            self.assertRegex(text, r"\A[ -~\n]*\Z")
            for node in ast.walk(tree):
                if isinstance(node, ast.FunctionDef):
                    self.assertLessEqual(node.end_lineno - node.lineno + 1, 40, node.name)

    def test_names(self):
        for text, tree in self.each():
            own = bound_names(tree)
            for name in own:
                self.assertTrue(name in WITH_UNDERSCORES or not name.startswith("_"), name)
                self.assertNotIn(name, BUILT_IN)
            for node in ast.walk(tree):
                if isinstance(node, ast.Name):
                    self.assertIn(node.id, own + BUILT_IN)

    def test_methods_are_listed_ones_or_the_packages_own(self):
        own = []
        for path in FILES:
            own += bound_names(ast.parse(path.read_text(encoding="utf-8")))
        for text, tree in self.each():
            for node in ast.walk(tree):
                if isinstance(node, ast.Attribute):
                    self.assertIn(node.attr, own + METHODS)

    def test_names_are_drawn_from_the_file_that_defines_them(self):
        for text, tree in self.each():
            for node in ast.walk(tree):
                if isinstance(node, ast.ImportFrom):
                    source = ast.parse((PACKAGE / (node.module.split(".")[1] + ".py")).read_text(encoding="utf-8"))
                    top = [row for row in source.body if not isinstance(row, ast.ImportFrom)]
                    defined = [row.name for row in top if isinstance(row, (ast.FunctionDef, ast.ClassDef))]
                    defined += [row.targets[0].id for row in top if isinstance(row, ast.Assign)]
                    for drawn in node.names:
                        self.assertIn(drawn.name, defined)

    def test_no_two_files_draw_from_one_another(self):
        draws = {}
        for path in FILES:
            rows = ast.parse(path.read_text(encoding="utf-8")).body
            draws[path.stem] = {row.module.split(".")[1] for row in rows if isinstance(row, ast.ImportFrom)}
        while draws:
            free = [name for name in draws if not draws[name] & set(draws)]
            self.assertNotEqual(free, [], draws)
            for name in free:
                del draws[name]

    def test_one_target_that_is_a_name_an_index_or_a_value(self):
        for text, tree in self.each():
            for node in ast.walk(tree):
                if isinstance(node, ast.Assign):
                    self.assertEqual(len(node.targets), 1)
                    self.assertIsInstance(node.targets[0], (ast.Name, ast.Subscript, ast.Attribute))

    def test_no_name_is_a_method_and_a_value(self):
        methods, values = set(), set()
        for text, tree in self.each():
            for node in ast.walk(tree):
                if isinstance(node, ast.ClassDef):
                    methods |= {row.name for row in node.body if isinstance(row, ast.FunctionDef)}
                if isinstance(node, ast.Attribute) and isinstance(node.ctx, ast.Store):
                    values.add(node.attr)
        self.assertEqual(methods & values, set())

    def test_words_that_stand_nowhere(self):
        for text, tree in self.each():
            self.assertEqual([word for word in re.findall(r"\w+", text) if word in NOT_WORDS], [])
            self.assertIsNone(re.search("dataclass|overload|contextmanager", text))


if __name__ == "__main__":
    unittest.main()
