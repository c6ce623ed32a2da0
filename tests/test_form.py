"""[0.1]: no clock, chance or files; and the rules of the form that the package's files keep, as far as a test can see.

The package has no `try`, no set and no `lambda`, so the rules about these are held by having none.
"""

import ast
import builtins
import pathlib
import re
import unittest

import cheapread

FOLDER = pathlib.Path(cheapread.__file__).parent
NAMES = """len range enumerate zip min max sum abs sorted reversed int str bool list tuple dict set frozenset
    isinstance ord repr any all divmod Exception ValueError TypeError KeyError IndexError LookupError
    ZeroDivisionError ArithmeticError OverflowError RuntimeError NotImplementedError AttributeError
    StopIteration""".split()
METHODS = """append clear copy count endswith extend find get index insert isalnum isalpha isdigit islower isspace
    isupper items join keys ljust lower lstrip partition pop remove replace reverse rfind rjust rpartition rsplit
    rstrip setdefault split splitlines startswith strip update upper values zfill bit_length""".split()
WORDS = """type typing typing_extensions enum Enum IntEnum StrEnum Flag IntFlag Generic Protocol ABC ABCMeta
    namedtuple NamedTuple TypedDict TYPE_CHECKING abstractmethod""".split()
OUT = (
    ast.With, ast.Match, ast.Delete, ast.Global, ast.Nonlocal, ast.Assert, ast.Yield, ast.YieldFrom, ast.Await,
    ast.AsyncFor, ast.AsyncWith, ast.AsyncFunctionDef, ast.Import, ast.SetComp, ast.DictComp, ast.GeneratorExp,
    ast.NamedExpr, ast.Starred, ast.Div, ast.AnnAssign, ast.Pow, ast.Try, ast.TryStar, ast.Set, ast.Lambda,
)
BARRED = """register mro elements open input version_info with_traceback add_note format format_map args encode
    set frozenset""".split()
LAZY = "zip enumerate reversed range items keys values".split()
TAKERS = "list tuple dict sorted sum any all enumerate zip".split()
CHANGERS = "append clear extend insert pop remove reverse setdefault update".split()


def files():
    return sorted(FOLDER.glob("*.py"))


def nodes():
    for path in files():
        for node in ast.walk(ast.parse(path.read_text())):
            yield path.name, node


def called(node):
    """The name of what is called, of a method too; None of what is no call."""
    if not isinstance(node, ast.Call):
        return None
    return node.func.id if isinstance(node.func, ast.Name) else node.func.attr


class Form(unittest.TestCase):
    def test_nothing_else_lies_in_the_folder(self):
        for path in FOLDER.iterdir():
            if path.name != "__pycache__":
                self.assertRegex(path.name, r"\A(__init__|[a-z][a-z0-9_]*)\.py\Z")
                self.assertNotIn(path.stem, dir(builtins))

    def test_the_top_of_a_file(self):
        for path in files():
            names = []
            for node in ast.parse(path.read_text()).body:
                if isinstance(node, (ast.FunctionDef, ast.ClassDef)):
                    names.append(node.name)
                elif isinstance(node, ast.ImportFrom):
                    names += [one.name for one in node.names]
                    self.assertEqual([one.asname for one in node.names if one.asname], [], path.name)
                elif isinstance(node, ast.Assign):
                    names.append(node.targets[0].id)
                    self.assertIs(type(ast.literal_eval(node.value)), int, path.name)
                else:
                    self.assertEqual(node.lineno, 1, path.name)
            self.assertEqual(len(set(names)), len(names), path.name)

    def test_names_are_drawn_from_the_file_that_defines_them(self):
        drawn = {}
        for path in files():
            drawn[path.stem] = []
            for node in ast.parse(path.read_text()).body:
                if isinstance(node, ast.ImportFrom):
                    source = FOLDER / (node.module.partition(".")[2] + ".py")
                    made = [one.name for one in ast.parse(source.read_text()).body if hasattr(one, "name")]
                    self.assertEqual([one.name for one in node.names if one.name not in made], [], path.name)
                    drawn[path.stem].append(source.stem)
        self.assertEqual(drawn["__init__"], [])
        while drawn:
            free = [name for name in drawn if not set(drawn[name]) & set(drawn)]
            self.assertTrue(free, f"these draw from one another: {drawn}")
            drawn = {name: drawn[name] for name in drawn if name not in free}

    def test_plain_names(self):
        for name, node in nodes():
            for field in ("id", "attr", "arg", "name"):
                word = getattr(node, field, None)
                if word is not None and word != "__init__":
                    self.assertRegex(word, r"\A[A-Za-z][A-Za-z0-9_]*\Z", name)
                    self.assertNotIn(word, BARRED, name)

    def test_no_local_is_called_like_a_class_or_an_import(self):
        for path in files():
            tree = ast.parse(path.read_text())
            top = [node.name for node in tree.body if isinstance(node, ast.ClassDef)]
            top += [one.name for node in tree.body if isinstance(node, ast.ImportFrom) for one in node.names]
            for node in ast.walk(tree):
                if isinstance(node, ast.arg):
                    self.assertNotIn(node.arg, top, path.name)
                if isinstance(node, ast.Name) and isinstance(node.ctx, ast.Store):
                    self.assertNotIn(node.id, top, path.name)

    def test_classes(self):
        methods, values = [], []
        for name, node in nodes():
            if isinstance(node, ast.ClassDef):
                self.assertLessEqual(len(node.bases), 1, node.name)
                self.assertFalse(node.decorator_list or node.keywords, node.name)
                for part in node.body:
                    self.assertIsInstance(part, (ast.FunctionDef, ast.Pass), node.name)
                    methods += [part.name] if isinstance(part, ast.FunctionDef) else []
            if isinstance(node, ast.Attribute) and isinstance(node.ctx, ast.Store):
                values.append(node.attr)
        own = [getattr(kind, "__dict__") for kind in (str, int, list, dict, set, bytes, tuple)]
        self.assertEqual([value for value in values if value in methods or any(value in one for one in own)], [])

    def test_is_beside_none_alone(self):
        for name, node in nodes():
            if isinstance(node, ast.Compare) and isinstance(node.ops[0], (ast.Is, ast.IsNot)):
                self.assertIn(ast.unparse(node.comparators[0]), ("None", "True", "False"), name)

    def test_statements_have_one_target_and_loops_no_else(self):
        for name, node in nodes():
            if isinstance(node, ast.Assign):
                self.assertEqual(len(node.targets), 1, name)
            if isinstance(node, (ast.For, ast.While)):
                self.assertEqual(node.orelse, [], name)
            if isinstance(node, ast.FunctionDef):
                self.assertIsNone(node.returns, node.name)
            if isinstance(node, ast.arg):
                self.assertIsNone(node.annotation, node.arg)

    def test_texts(self):
        for name, node in nodes():
            if isinstance(node, ast.Constant) and isinstance(node.value, str):
                self.assertNotIn(chr(37), node.value, name)
            if isinstance(node, ast.FormattedValue):
                self.assertIsInstance(node.value, ast.Name, name)
                self.assertIn(node.conversion, (-1, ord("r")), name)
                self.assertIsNone(node.format_spec, name)

    def test_what_is_walked_is_walked_at_once(self):
        for name, node in nodes():
            walked = []
            if isinstance(node, (ast.For, ast.comprehension)):
                walked.append(node.iter)
            if called(node) in TAKERS:
                walked += node.args if called(node) == "zip" else node.args[:1]
            for part in walked:
                part.at_once = True
            for part in ast.iter_child_nodes(node):
                if called(part) in LAZY:
                    self.assertTrue(hasattr(part, "at_once"), f"{name}: {ast.unparse(node)[:80]}")

    def test_what_is_walked_is_not_changed(self):
        for name, node in nodes():
            if not isinstance(node, ast.For):
                continue
            walked = [ast.unparse(part) for part in ast.walk(node.iter) if isinstance(part, (ast.Name, ast.Attribute))]
            for part in [inner for row in node.body for inner in ast.walk(row)]:
                if isinstance(part, ast.Subscript) and isinstance(part.ctx, ast.Store):
                    self.assertNotIn(ast.unparse(part.value), walked, name)
                if called(part) in CHANGERS:
                    self.assertNotIn(ast.unparse(part.func.value), walked, name)

    def test_keywords_of_pythons_own(self):
        for name, node in nodes():
            if isinstance(node, ast.Call) and node.keywords:
                self.assertIn(called(node), ("min", "max"), name)
                self.assertEqual([word.arg for word in node.keywords], ["default"], name)

    def test_lines_and_signs(self):
        for path in files():
            text = path.read_bytes().decode("ascii")
            self.assertLessEqual(text.count("\n"), 400, path.name)
            self.assertTrue(all(sign == "\n" or " " <= sign <= "~" for sign in text), path.name)
            self.assertLessEqual(max(len(line) for line in text.split("\n")), 120, path.name)
            self.assertEqual([word for word in re.findall(r"\w+", text) if word in WORDS], [], path.name)

    def test_only_the_package_itself_is_drawn_from(self):
        for name, node in nodes():
            if isinstance(node, ast.ImportFrom):
                self.assertEqual(node.level, 0, name)
                self.assertRegex(node.module, r"\Acheapread\.\w+\Z", name)

    def test_only_plain_statements_and_values(self):
        for name, node in nodes():
            self.assertNotIsInstance(node, OUT, f"{name}: {ast.dump(node)[:80]}")
            if isinstance(node, ast.Constant):
                self.assertIn(type(node.value), (int, str, bool, type(None)), name)
            if isinstance(node, ast.Expr) and not isinstance(node.value, ast.Call):
                self.assertEqual(node.lineno, 1, f"{name}: a value by itself")
            if isinstance(node, ast.ListComp):
                self.assertEqual(len(node.generators), 1, name)
                self.assertLessEqual(len(node.generators[0].ifs), 1, name)

    def test_functions(self):
        for name, node in nodes():
            if isinstance(node, ast.FunctionDef):
                self.assertLessEqual(node.end_lineno - node.lineno + 1, 40, node.name)
                self.assertEqual(node.decorator_list, [], node.name)
                asked = node.args
                self.assertFalse(asked.vararg or asked.kwarg or asked.kwonlyargs or asked.posonlyargs, node.name)

    def test_only_known_names_of_pythons_own(self):
        for path in files():
            tree = ast.parse(path.read_text())
            own = set()
            for node in ast.walk(tree):
                if isinstance(node, (ast.FunctionDef, ast.ClassDef)):
                    own.add(node.name)
                elif isinstance(node, ast.arg):
                    own.add(node.arg)
                elif isinstance(node, ast.alias):
                    own.add(node.name)
                elif isinstance(node, ast.Name) and isinstance(node.ctx, ast.Store):
                    own.add(node.id)
            used = [node.id for node in ast.walk(tree) if isinstance(node, ast.Name)]
            self.assertEqual([name for name in used if name not in own and name not in NAMES], [], path.name)
            self.assertEqual([name for name in sorted(own) if name in dir(builtins)], [], path.name)

    def test_only_known_methods(self):
        own = [node.name for name, node in nodes() if isinstance(node, ast.FunctionDef)]
        for name, node in nodes():
            if isinstance(node, ast.Call) and isinstance(node.func, ast.Attribute):
                self.assertIn(node.func.attr, METHODS + own, name)


if __name__ == "__main__":
    unittest.main()
