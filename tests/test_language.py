"""The package's files against those rules of the language document that can be seen in the text."""

import ast
import builtins
import pathlib
import re
import unittest

PACKAGE = pathlib.Path(__file__).resolve().parent.parent / "tagmenddesk"

WORDS_NOWHERE = (
    "type typing typing_extensions enum Enum IntEnum StrEnum Flag IntFlag Generic Protocol ABC ABCMeta "
    "namedtuple NamedTuple TypedDict TYPE_CHECKING abstractmethod"
).split()
PARTS_NOWHERE = ("dataclass", "overload", "contextmanager")
NAMES_NOT_USED = (
    "register mro elements open input version_info with_traceback add_note format format_map attrgetter "
    "breakpoint builtins compile copyright credits delattr dir eval exec exit gc getattr globals hasattr help "
    "id importlib license locals methodcaller os quit setattr super vars sys chr print"
).split()
BUILTINS_USED = (
    "len range enumerate zip min max sum abs sorted reversed int str bool list tuple dict set isinstance ord "
    "repr any all divmod"
).split()
METHODS_USED = (
    "append clear copy count endswith extend find get index insert isalnum isalpha isdigit islower isspace "
    "isupper items join keys ljust lower lstrip partition pop remove replace reverse rfind rjust rpartition "
    "rsplit rstrip setdefault split splitlines startswith strip update upper values zfill bit_length"
).split()
NODES_NOT_USED = (
    ast.With, ast.Match, ast.Delete, ast.Global, ast.Nonlocal, ast.Assert, ast.Yield, ast.YieldFrom, ast.Await,
    ast.AsyncFunctionDef, ast.AsyncFor, ast.AsyncWith, ast.SetComp, ast.DictComp, ast.GeneratorExp,
    ast.NamedExpr, ast.Starred, ast.Div, ast.Import, ast.ImportFrom, ast.AnnAssign, ast.Set, ast.Try,
)


def files():
    return sorted(path for path in PACKAGE.rglob("*") if "__pycache__" not in path.parts)


def trees():
    return [(path.name, ast.parse(path.read_text("ascii"))) for path in files()]


def nodes(*kinds):
    return [(name, node) for name, tree in trees() for node in ast.walk(tree) if isinstance(node, kinds)]


class Texts(unittest.TestCase):
    def test_files(self):
        self.assertEqual([path.name for path in files()], ["__init__.py", "segment.py"])

    def test_signs(self):
        for path in files():
            self.assertRegex(path.read_bytes().decode("latin-1"), r"\A[\n -~]*\Z", path)

    def test_size(self):
        for path in files():
            rows = path.read_text("ascii").split("\n")
            self.assertLessEqual(len(rows), 400, path)
            self.assertLessEqual(max(len(row) for row in rows), 120, path)

    def test_words_that_stand_nowhere(self):
        for path in files():
            text = path.read_text("ascii")
            found = [word for word in re.findall(r"\w+", text) if word in WORDS_NOWHERE]
            self.assertEqual(found, [], path)
            self.assertEqual([part for part in PARTS_NOWHERE if part in text], [], path)


class Code(unittest.TestCase):
    def test_functions(self):
        for name, node in nodes(ast.FunctionDef):
            said = (name, node.name)
            self.assertLessEqual(node.end_lineno - node.lineno + 1, 40, said)
            self.assertEqual(node.decorator_list, [], said)
            self.assertIsNone(node.args.vararg or node.args.kwarg, said)
            self.assertEqual(node.args.kwonlyargs, [], said)

    def test_statements_and_expressions(self):
        found = [(name, node.lineno) for name, node in nodes(*NODES_NOT_USED) if hasattr(node, "lineno")]
        self.assertEqual(found, [])
        self.assertEqual(nodes(ast.Div), [])
        self.assertEqual([node.lineno for name, node in nodes(ast.For, ast.While) if node.orelse], [])
        self.assertEqual([node.lineno for name, node in nodes(ast.Assign) if len(node.targets) > 1], [])

    def test_list_comprehensions(self):
        for name, node in nodes(ast.ListComp):
            self.assertEqual(len(node.generators), 1, (name, node.lineno))
            self.assertLessEqual(len(node.generators[0].ifs), 1, (name, node.lineno))

    def test_values(self):
        for name, node in nodes(ast.Constant):
            self.assertIsInstance(node.value, (int, str, bool, type(None)), (name, node.lineno))

    def test_names(self):
        for name, node in nodes(ast.Name, ast.arg, ast.FunctionDef, ast.ClassDef, ast.Attribute):
            word = getattr(node, "id", None) or getattr(node, "attr", None) or getattr(node, "arg", None) or node.name
            said = (name, node.lineno, word)
            self.assertNotIn(word, NAMES_NOT_USED, said)
            if word == "__init__":
                continue
            self.assertFalse(word.startswith("_"), said)
            if hasattr(builtins, word) and not isinstance(node, ast.Attribute):
                self.assertIn(word, BUILTINS_USED, said)
                self.assertIsInstance(getattr(node, "ctx", None), ast.Load, said)

    def test_methods(self):
        for name, node in nodes(ast.Call):
            if isinstance(node.func, ast.Attribute):
                self.assertIn(node.func.attr, METHODS_USED, (name, node.lineno))

    def test_is_stands_beside_none_true_and_false(self):
        for name, node in nodes(ast.Compare):
            if any(isinstance(sign, (ast.Is, ast.IsNot)) for sign in node.ops):
                self.assertIn(getattr(node.comparators[0], "value", 0), (None, True, False), (name, node.lineno))

    def test_each_name_once_at_the_top(self):
        for name, tree in trees():
            bound = [node.name for node in tree.body if isinstance(node, (ast.FunctionDef, ast.ClassDef))]
            bound += [node.targets[0].id for node in tree.body if isinstance(node, ast.Assign)]
            self.assertEqual(len(bound), len(set(bound)), name)


if __name__ == "__main__":
    unittest.main()
