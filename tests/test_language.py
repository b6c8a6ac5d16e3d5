"""The package keeps to its small part of Python, as far as a walk through its trees can see."""

import ast
import builtins
import pathlib
import re
import unittest

PACKAGE = pathlib.Path(__file__).resolve().parent.parent / "movedkeys"
FILES = sorted(path for path in PACKAGE.rglob("*") if "__pycache__" not in path.parts)

STATEMENTS = (ast.Assign, ast.AugAssign, ast.If, ast.While, ast.For, ast.Return, ast.Break, ast.Continue,
              ast.Pass, ast.Raise, ast.Try, ast.Expr, ast.FunctionDef, ast.ClassDef, ast.ImportFrom)
EXPRESSIONS = (ast.Constant, ast.List, ast.Tuple, ast.Dict, ast.BinOp, ast.UnaryOp, ast.Compare, ast.BoolOp,
               ast.IfExp, ast.Call, ast.Attribute, ast.Subscript, ast.Slice, ast.ListComp, ast.Name, ast.Lambda,
               ast.JoinedStr, ast.FormattedValue)
BUILTINS = """len range enumerate zip min max sum abs sorted reversed int str bool list tuple dict set frozenset
    isinstance ord repr any all divmod Exception ValueError TypeError KeyError IndexError LookupError
    ZeroDivisionError ArithmeticError OverflowError RuntimeError NotImplementedError AttributeError
    StopIteration""".split()
METHODS = """append clear copy count endswith extend find get index insert isalnum isalpha isdigit islower isspace
    isupper items join keys ljust lower lstrip partition pop remove replace reverse rfind rjust rpartition rsplit
    rstrip setdefault split splitlines startswith strip update upper values zfill bit_length""".split()
OWN_MAY_BE_CALLED = METHODS + ["add", "discard"]
DUNDERS = ["__init__", "__eq__", "__repr__", "__str__", "__len__"]
WORDS = """type typing typing_extensions enum Enum IntEnum StrEnum Flag IntFlag Generic Protocol ABC ABCMeta
    namedtuple NamedTuple TypedDict TYPE_CHECKING abstractmethod""".split()
PARTS = ["dataclass", "overload", "contextmanager"]
NOT_USED = """register mro elements open input version_info with_traceback add_note attrgetter breakpoint builtins
    compile copyright credits delattr dir eval exec exit gc getattr globals hasattr help id importlib license
    locals methodcaller os quit setattr super type vars sys format format_map""".split()
PYTHONS_OWN = {name for kind in (str, int, list, dict, set, bytes) for name in dir(kind)}


def text_of(path):
    return path.read_bytes().decode("ascii")


def nodes(kind):
    for path in FILES:
        for node in ast.walk(ast.parse(text_of(path))):
            if isinstance(node, kind):
                yield path.name, node


def own_methods():
    return [part.name for place, node in nodes(ast.ClassDef) for part in node.body
            if isinstance(part, ast.FunctionDef)]


def own_values():
    return [node.attr for place, node in nodes(ast.Attribute) if isinstance(node.ctx, ast.Store)]


def bound_names():
    for place, node in nodes((ast.Name, ast.arg)):
        if isinstance(node, ast.arg):
            yield place, node.lineno, node.arg
        elif isinstance(node.ctx, ast.Store):
            yield place, node.lineno, node.id


class Files(unittest.TestCase):
    def test_only_plain_files(self):
        self.assertIn(PACKAGE / "__init__.py", FILES)
        for path in FILES:
            self.assertRegex(path.name, r"^([a-z][a-z0-9_]*|__init__|__main__)\.py$")
            self.assertNotIn(path.stem, dir(builtins))

    def test_signs_and_size(self):
        for path in FILES:
            text = text_of(path)
            self.assertRegex(text, r"\A[ -~\n]*\Z")
            self.assertLessEqual(len(text.splitlines()), 400)
            for line in text.splitlines():
                self.assertLessEqual(len(line), 120, line)

    def test_words(self):
        for path in FILES:
            words = re.findall(r"\w+", text_of(path))
            for word in WORDS:
                self.assertNotIn(word, words, path)
            for part in PARTS:
                self.assertNotIn(part, text_of(path), path)


class Forms(unittest.TestCase):
    def test_statements_and_expressions(self):
        for place, node in nodes(ast.stmt):
            self.assertIsInstance(node, STATEMENTS, (place, node.lineno))
        for place, node in nodes(ast.expr):
            self.assertIsInstance(node, EXPRESSIONS, (place, node.lineno))
        for place, node in nodes((ast.Div, ast.MatMult, ast.Is, ast.IsNot)):
            self.fail((place, node))

    def test_statements_narrowly(self):
        for place, node in nodes(ast.Assign):
            self.assertEqual(len(node.targets), 1, (place, node.lineno))
        for place, node in nodes((ast.For, ast.While)):
            self.assertEqual(node.orelse, [], (place, node.lineno))
        for place, node in nodes(ast.ListComp):
            self.assertEqual(len(node.generators), 1, (place, node.lineno))
            self.assertLessEqual(len(node.generators[0].ifs), 1, (place, node.lineno))
        for place, node in nodes(ast.Constant):
            self.assertIn(type(node.value), (int, str, bool, type(None)), (place, node.lineno))

    def test_a_line_by_itself_is_a_call_or_the_docstring(self):
        for place, tree in nodes(ast.Module):
            self.assertIsNotNone(ast.get_docstring(tree), place)
            for node in ast.walk(tree):
                if isinstance(node, ast.Expr) and node is not tree.body[0]:
                    self.assertIsInstance(node.value, ast.Call, (place, node.lineno))

    def test_tops(self):
        for place, tree in nodes(ast.Module):
            for node in tree.body[1:]:
                self.assertIsInstance(node, (ast.ImportFrom, ast.FunctionDef, ast.ClassDef, ast.Assign), place)
                if isinstance(node, ast.Assign):
                    for part in ast.walk(node.value):
                        self.assertNotIsInstance(part, (ast.Call, ast.ListComp, ast.Lambda), (place, node.lineno))

    def test_imports(self):
        for place, node in nodes(ast.ImportFrom):
            self.assertEqual(node.level, 0, place)
            self.assertTrue((PACKAGE / (node.module.split(".")[1] + ".py")).is_file(), (place, node.module))
            self.assertTrue(node.module.startswith("movedkeys."), (place, node.module))
            self.assertTrue(all(one.name != "*" and one.asname is None for one in node.names), place)

    def test_functions(self):
        for place, node in nodes(ast.FunctionDef):
            self.assertLessEqual(node.end_lineno - node.lineno + 1, 40, (place, node.name))
            self.assertEqual(node.decorator_list, [], (place, node.name))
            self.assertEqual((node.args.vararg, node.args.kwarg, node.args.kwonlyargs), (None, None, []), place)

    def test_classes(self):
        for place, node in nodes(ast.ClassDef):
            self.assertEqual((node.decorator_list, node.keywords), ([], []), (place, node.name))
            self.assertLessEqual(len(node.bases), 1, (place, node.name))
            for part in node.body:
                self.assertIsInstance(part, (ast.FunctionDef, ast.Pass), (place, node.name))


class Names(unittest.TestCase):
    def test_pythons_own(self):
        for place, node in nodes(ast.Name):
            if isinstance(node.ctx, ast.Load) and node.id in dir(builtins):
                self.assertIn(node.id, BUILTINS, (place, node.lineno))

    def test_bound(self):
        own = [node.name for place, node in nodes(ast.ClassDef)]
        for place, line, name in bound_names():
            self.assertRegex(name, r"^[A-Za-z][A-Za-z0-9_]*$", (place, line))
            self.assertNotIn(name, dir(builtins) + NOT_USED + own, (place, line))
        for place, node in nodes(ast.FunctionDef):
            if node.name not in DUNDERS:
                self.assertRegex(node.name, r"^[a-z][a-z0-9_]*$", place)
                self.assertNotIn(node.name, NOT_USED, place)

    def test_methods_called(self):
        free = METHODS + own_methods() + own_values()
        for place, node in nodes(ast.Attribute):
            self.assertIn(node.attr, free, (place, node.lineno))

    def test_methods_and_values_of_objects(self):
        self.assertEqual(sorted(set(own_methods()) & set(own_values())), [])
        for name in own_methods():
            if name not in DUNDERS + OWN_MAY_BE_CALLED:
                self.assertNotIn(name, PYTHONS_OWN)
        for name in own_values():
            self.assertNotIn(name, PYTHONS_OWN)

    def test_keywords(self):
        allowed = {"sorted": ["key", "reverse"], "min": ["key", "default"], "max": ["key", "default"],
                   "sum": ["start"], "enumerate": ["start"], "zip": ["strict"]}
        for place, node in nodes(ast.Call):
            for keyword in node.keywords:
                name = node.func.id if isinstance(node.func, ast.Name) else None
                self.assertIn(keyword.arg, allowed.get(name, []), (place, node.lineno))


if __name__ == "__main__":
    unittest.main()
