"""The form of the package's files: the rules of the language that are quickly looked at."""

import ast
import builtins
import pathlib
import re
import unittest

PACKAGE = pathlib.Path(__file__).resolve().parent.parent / "pointways"
FILES = sorted(PACKAGE.rglob("*.py"))

WORDS = ("type typing typing_extensions enum Enum IntEnum StrEnum Flag IntFlag Generic Protocol ABC ABCMeta "
         "namedtuple NamedTuple TypedDict TYPE_CHECKING abstractmethod").split()
PARTS = ["dataclass", "overload", "contextmanager"]
NAMES = ("abs all any bool bytes dict divmod enumerate frozenset int isinstance len list max min ord range repr "
         "reversed set sorted str sum tuple zip Exception ValueError TypeError KeyError IndexError LookupError "
         "ZeroDivisionError ArithmeticError OverflowError RuntimeError NotImplementedError AttributeError "
         "StopIteration").split()
LEFT_OUT = (ast.With, ast.Match, ast.Global, ast.Nonlocal, ast.Yield, ast.YieldFrom, ast.AsyncFunctionDef,
            ast.GeneratorExp, ast.NamedExpr, ast.Div, ast.Import)
METHODS = ("append clear copy count endswith extend find get index insert isalnum isalpha isdigit islower isspace "
           "isupper items join keys ljust lower lstrip partition pop remove replace reverse rfind rjust rpartition "
           "rsplit rstrip setdefault split splitlines startswith strip update upper values zfill bit_length "
           "add discard sort __init__").split()


def bound(tree):
    """All names that a file binds anywhere."""
    names = set()
    for node in ast.walk(tree):
        if isinstance(node, (ast.FunctionDef, ast.ClassDef)):
            names.add(node.name)
        elif isinstance(node, ast.arg):
            names.add(node.arg)
        elif isinstance(node, ast.ImportFrom):
            names.update(alias.name for alias in node.names)
        elif isinstance(node, ast.Name) and not isinstance(node.ctx, ast.Load):
            names.add(node.id)
    return names


def each():
    """Each file's name, text and tree."""
    texts = [(path.name, path.read_text(encoding="utf-8")) for path in FILES]
    return [(name, text, ast.parse(text)) for name, text in texts]


class Form(unittest.TestCase):

    def test_nothing_else_lies_in_the_package(self):
        self.assertTrue((PACKAGE / "__init__.py").is_file())
        for path in PACKAGE.rglob("*"):
            if "__pycache__" not in path.parts:
                self.assertEqual(path.suffix, ".py", path)

    def test_signs_and_sizes(self):
        for name, text, tree in each():
            self.assertIsNone(re.search(r"[^ -~\n]", text), name)
            self.assertLessEqual(len(text.splitlines()), 400, name)
            self.assertLessEqual(max(len(row) for row in text.splitlines()), 120, name)
            for node in ast.walk(tree):
                if isinstance(node, ast.FunctionDef):
                    self.assertLessEqual(node.end_lineno - node.lineno + 1, 40, (name, node.name))

    def test_words_that_stand_nowhere(self):
        for name, text, _ in each():
            self.assertEqual(sorted(set(re.findall(r"\w+", text)) & set(WORDS)), [], name)
            self.assertEqual([part for part in PARTS if part in text], [], name)

    def test_imports_are_the_package_s_own(self):
        for name, _, tree in each():
            for node in ast.walk(tree):
                if isinstance(node, ast.ImportFrom):
                    self.assertEqual(node.level, 0, name)
                    self.assertTrue(node.module.startswith("pointways."), (name, node.module))

    def test_statements_and_values_that_are_left_out(self):
        for name, _, tree in each():
            for node in ast.walk(tree):
                at = (name, getattr(node, "lineno", 0))
                self.assertNotIsInstance(node, LEFT_OUT, at)
                if isinstance(node, ast.Starred):
                    self.assertIsInstance(node.ctx, ast.Store, at)
                if isinstance(node, ast.Constant):
                    self.assertNotIsInstance(node.value, (float, complex), at)
                    self.assertFalse(isinstance(node.value, str) and "%" in node.value, at)
                if isinstance(node, (ast.FunctionDef, ast.ClassDef)):
                    self.assertEqual(node.decorator_list, [], at)

    def test_names(self):
        for name, _, tree in each():
            names = bound(tree)
            self.assertEqual(sorted(names & set(NAMES)), [], name)
            self.assertEqual([one for one in sorted(names) if one.startswith("_") and one != "__init__"], [], name)
            asked = {node.id for node in ast.walk(tree) if isinstance(node, ast.Name)}
            self.assertEqual(sorted(asked - names - set(NAMES)), [], name)

    def test_nothing_is_called_like_python_s_own_or_like_what_is_drawn_in(self):
        for name, _, tree in each():
            drawn = [alias.name for row in tree.body if isinstance(row, ast.ImportFrom) for alias in row.names]
            top = drawn + [row.name for row in tree.body if isinstance(row, (ast.FunctionDef, ast.ClassDef))]
            self.assertEqual(sorted(top), sorted(set(top)), name)
            self.assertEqual(sorted(set(top) & set(dir(builtins))), [], name)
            for node in ast.walk(tree):
                if isinstance(node, (ast.FunctionDef, ast.Lambda)):
                    inner = bound(node) - {getattr(node, "name", "")}
                    self.assertEqual(sorted(inner & (set(top) | set(dir(builtins)))), [], (name, node.lineno))

    def test_names_are_drawn_from_the_file_that_defines_them_and_used(self):
        defined = {name: {row.name for row in tree.body if isinstance(row, (ast.FunctionDef, ast.ClassDef))}
                   for name, _, tree in each()}
        for name, _, tree in each():
            asked = {node.id for node in ast.walk(tree) if isinstance(node, ast.Name)}
            for row in tree.body:
                if isinstance(row, ast.ImportFrom):
                    drawn = {alias.name for alias in row.names}
                    self.assertEqual(sorted(drawn - defined[row.module.split(".")[1] + ".py"]), [], name)
                    self.assertEqual(sorted(drawn - asked), [], name)

    def test_no_two_files_draw_from_one_another(self):
        draws = {name: [row.module.split(".")[1] + ".py" for row in tree.body if isinstance(row, ast.ImportFrom)]
                 for name, _, tree in each()}
        while draws:
            free = [name for name in draws if not set(draws[name]) & set(draws)]
            self.assertNotEqual(free, [], sorted(draws))
            for name in free:
                del draws[name]

    def test_methods_and_comparisons(self):
        trees = each()
        own = {node.name for _, _, tree in trees for node in ast.walk(tree) if isinstance(node, ast.FunctionDef)}
        for name, _, tree in trees:
            for node in ast.walk(tree):
                at = (name, getattr(node, "lineno", 0))
                if isinstance(node, ast.Call) and isinstance(node.func, ast.Attribute):
                    self.assertIn(node.func.attr, set(METHODS) | own, at)
                if isinstance(node, (ast.For, ast.While)):
                    self.assertEqual(node.orelse, [], at)
                if isinstance(node, ast.Compare) and isinstance(node.ops[0], (ast.Is, ast.IsNot)):
                    self.assertIsInstance(node.comparators[0], ast.Constant, at)
                if isinstance(node, (ast.For, ast.comprehension)):
                    self.assertNotIsInstance(node.iter, (ast.Set, ast.SetComp), at)


if __name__ == "__main__":
    unittest.main()
