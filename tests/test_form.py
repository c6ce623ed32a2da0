"""[0.1]: no clock, chance or files; and the plainest rules of the form that the package's files keep."""

import ast
import builtins
import pathlib
import re
import unittest

import cheapread

FOLDER = pathlib.Path(cheapread.__file__).parent
NAMES = """len range enumerate zip min max sum abs sorted reversed int str bool list tuple dict set frozenset
    isinstance ord repr any all divmod Exception ValueError TypeError KeyError IndexError LookupError
    ZeroDivisionError ArithmeticError OverflowError RuntimeError NotImplementedError AttributeError
    StopIteration""".split()
METHODS = """append clear copy count endswith extend find get index insert isalnum isalpha isdigit islower isspace
    isupper items join keys ljust lower lstrip partition pop remove replace reverse rfind rjust rpartition rsplit
    rstrip setdefault split splitlines startswith strip update upper values zfill bit_length""".split()
WORDS = """type typing typing_extensions enum Enum IntEnum StrEnum Flag IntFlag Generic Protocol ABC ABCMeta
    namedtuple NamedTuple TypedDict TYPE_CHECKING abstractmethod""".split()
OUT = (
    ast.With, ast.Match, ast.Delete, ast.Global, ast.Nonlocal, ast.Assert, ast.Yield, ast.YieldFrom, ast.Await,
    ast.AsyncFor, ast.AsyncWith, ast.AsyncFunctionDef, ast.Import, ast.SetComp, ast.DictComp, ast.GeneratorExp,
    ast.NamedExpr, ast.Starred, ast.Div, ast.AnnAssign,
)


def files():
    return sorted(FOLDER.glob("*.py"))


def nodes():
    for path in files():
        for node in ast.walk(ast.parse(path.read_text())):
            yield path.name, node


class Form(unittest.TestCase):
    def test_lines_and_signs(self):
        for path in files():
            text = path.read_bytes().decode("ascii")
            self.assertLessEqual(text.count("\n"), 400, path.name)
            self.assertTrue(all(sign == "\n" or " " <= sign <= "~" for sign in text), path.name)
            self.assertLessEqual(max(len(line) for line in text.split("\n")), 120, path.name)
            self.assertEqual([word for word in re.findall(r"\w+", text) if word in WORDS], [], path.name)

    def test_only_the_package_itself_is_drawn_from(self):
        for name, node in nodes():
            if isinstance(node, ast.ImportFrom):
                self.assertEqual(node.level, 0, name)
                self.assertRegex(node.module, r"\Acheapread\.\w+\Z", name)

    def test_only_plain_statements_and_values(self):
        for name, node in nodes():
            self.assertNotIsInstance(node, OUT, f"{name}: {ast.dump(node)[:80]}")
            if isinstance(node, ast.Constant):
                self.assertIn(type(node.value), (int, str, bool, type(None)), name)
            if isinstance(node, ast.Expr) and not isinstance(node.value, ast.Call):
                self.assertEqual(node.lineno, 1, f"{name}: a value by itself")
            if isinstance(node, ast.ListComp):
                self.assertEqual(len(node.generators), 1, name)
                self.assertLessEqual(len(node.generators[0].ifs), 1, name)

    def test_functions(self):
        for name, node in nodes():
            if isinstance(node, ast.FunctionDef):
                self.assertLessEqual(node.end_lineno - node.lineno + 1, 40, node.name)
                self.assertEqual(node.decorator_list, [], node.name)
                asked = node.args
                self.assertFalse(asked.vararg or asked.kwarg or asked.kwonlyargs or asked.posonlyargs, node.name)

    def test_only_known_names_of_pythons_own(self):
        for path in files():
            tree = ast.parse(path.read_text())
            own = set()
            for node in ast.walk(tree):
                if isinstance(node, (ast.FunctionDef, ast.ClassDef)):
                    own.add(node.name)
                elif isinstance(node, ast.arg):
                    own.add(node.arg)
                elif isinstance(node, ast.alias):
                    own.add(node.name)
                elif isinstance(node, ast.Name) and isinstance(node.ctx, ast.Store):
                    own.add(node.id)
            used = [node.id for node in ast.walk(tree) if isinstance(node, ast.Name)]
            self.assertEqual([name for name in used if name not in own and name not in NAMES], [], path.name)
            self.assertEqual([name for name in sorted(own) if name in dir(builtins)], [], path.name)

    def test_only_known_methods(self):
        own = [node.name for name, node in nodes() if isinstance(node, ast.FunctionDef)]
        for name, node in nodes():
            if isinstance(node, ast.Call) and isinstance(node.func, ast.Attribute):
                self.assertIn(node.func.attr, METHODS + own, name)


if __name__ == "__main__":
    unittest.main()
