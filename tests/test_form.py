"""The form of the package's files: what can be seen of it without running them."""

import ast
import pathlib
import re
import unittest

PACKAGE = pathlib.Path(__file__).resolve().parent.parent / "snowcrews"

BUILT_INS = set("""len range enumerate zip min max sum abs sorted reversed int str bool list tuple dict set frozenset
    isinstance ord repr any all divmod""".split())

FORBIDDEN_NODES = (ast.With, ast.Delete, ast.Global, ast.Nonlocal, ast.Assert, ast.Yield, ast.YieldFrom, ast.Match,
                   ast.AsyncFunctionDef, ast.Await, ast.SetComp, ast.DictComp, ast.GeneratorExp, ast.NamedExpr,
                   ast.Starred, ast.Div, ast.Import, ast.ImportFrom, ast.AnnAssign)


METHODS = set("""append clear copy count endswith extend find get index insert isalnum isalpha isdigit islower isspace
    isupper items join keys ljust lower lstrip partition pop remove replace reverse rfind rjust rpartition rsplit
    rstrip setdefault split splitlines startswith strip update upper values zfill bit_length""".split())

WORDS_THAT_ARE_OUT = set("""type typing typing_extensions enum Enum IntEnum StrEnum Flag IntFlag Generic Protocol ABC
    ABCMeta namedtuple NamedTuple TypedDict TYPE_CHECKING abstractmethod""".split())


def files():
    return sorted(PACKAGE.glob("*.py"))


def bound_names(tree):
    """Names that the file itself gives a meaning, anywhere in it."""
    names = set()
    for node in ast.walk(tree):
        if isinstance(node, (ast.FunctionDef, ast.ClassDef)):
            names.add(node.name)
        elif isinstance(node, ast.arg):
            names.add(node.arg)
        elif isinstance(node, ast.Name) and isinstance(node.ctx, ast.Store):
            names.add(node.id)
    return names


def methods_and_values(tree):
    """The names of the methods of the file's classes, and those of the values that objects are given."""
    methods = {item.name for node in ast.walk(tree) if isinstance(node, ast.ClassDef) for item in node.body
               if isinstance(item, ast.FunctionDef)}
    values = {node.attr for node in ast.walk(tree) if isinstance(node, ast.Attribute)
              and isinstance(node.ctx, ast.Store)}
    return methods, values


class Form(unittest.TestCase):
    def test_only_python_files_lie_there(self):
        others = [path.name for path in PACKAGE.iterdir() if path.suffix != ".py" and path.name != "__pycache__"]
        self.assertEqual(others, [])
        self.assertIn("__init__.py", [path.name for path in files()])

    def test_signs_and_sizes(self):
        for path in files():
            text = path.read_bytes().decode("ascii")
            self.assertEqual([sign for sign in text if sign != "\n" and not " " <= sign <= "~"], [], path)
            self.assertLessEqual(len(text.splitlines()), 400, path)
            self.assertLessEqual(max(len(row) for row in text.splitlines()), 120, path)

    def test_functions_are_short(self):
        for path in files():
            for node in ast.walk(ast.parse(path.read_text())):
                if isinstance(node, ast.FunctionDef):
                    self.assertLessEqual(node.end_lineno - node.lineno + 1, 40, (path, node.name))

    def test_nothing_is_imported_and_no_form_is_used_that_is_out(self):
        for path in files():
            for node in ast.walk(ast.parse(path.read_text())):
                self.assertNotIsInstance(node, FORBIDDEN_NODES, (path, getattr(node, "lineno", 0)))
                if isinstance(node, (ast.FunctionDef, ast.ClassDef)):
                    self.assertEqual(node.decorator_list, [], (path, node.name))
                if isinstance(node, ast.Constant):
                    self.assertNotIsInstance(node.value, (float, bytes, complex), (path, node.lineno))

    def test_only_known_names_are_read(self):
        for path in files():
            tree = ast.parse(path.read_text())
            own = bound_names(tree)
            read = {node.id for node in ast.walk(tree) if isinstance(node, ast.Name)}
            self.assertEqual(read - own - BUILT_INS, set(), path)
            self.assertEqual(own & BUILT_INS, set(), path)
            self.assertEqual([name for name in own if name.startswith("_") and name != "__init__"], [], path)

    def test_no_name_is_a_method_and_a_value(self):
        for path in files():
            methods, values = methods_and_values(ast.parse(path.read_text()))
            self.assertEqual(methods & values, set(), path)

    def test_only_known_methods_are_called(self):
        for path in files():
            tree = ast.parse(path.read_text())
            called = {node.func.attr for node in ast.walk(tree) if isinstance(node, ast.Call)
                      and isinstance(node.func, ast.Attribute)}
            self.assertEqual(called - methods_and_values(tree)[0] - METHODS, set(), path)

    def test_no_word_stands_there_that_is_out(self):
        for path in files():
            text = path.read_text()
            self.assertEqual(set(re.findall(r"\w+", text)) & WORDS_THAT_ARE_OUT, set(), path)
            self.assertIsNone(re.search("dataclass|overload|contextmanager", text), path)


if __name__ == "__main__":
    unittest.main()
