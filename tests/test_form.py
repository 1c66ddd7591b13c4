"""The form of the package's files, as far as it is easily seen."""

import ast
import pathlib
import re
import unittest

PACKAGE = pathlib.Path(__file__).resolve().parent.parent / "shoelaces"

UNWANTED = (
    ast.Import, ast.ImportFrom, ast.With, ast.Match, ast.Delete, ast.Global, ast.Nonlocal, ast.Assert, ast.Yield,
    ast.YieldFrom, ast.Await, ast.AsyncFunctionDef, ast.SetComp, ast.DictComp, ast.GeneratorExp, ast.NamedExpr,
    ast.Starred, ast.Div, ast.Set, ast.Is, ast.IsNot,
)

WORDS = re.compile(
    r"\b(type|typing|typing_extensions|enum|Enum|IntEnum|StrEnum|Flag|IntFlag|Generic|Protocol|ABC|ABCMeta|namedtuple"
    r"|NamedTuple|TypedDict|TYPE_CHECKING|abstractmethod)\b|dataclass|overload|contextmanager"
)

BUILTINS = set(
    "len range enumerate zip min max sum abs sorted reversed int str bool list tuple dict set frozenset isinstance ord"
    " repr any all divmod Exception ValueError KeyError IndexError NotImplementedError".split()
)


class Form(unittest.TestCase):
    def setUp(self):
        self.texts = {path.name: path.read_text("utf-8") for path in sorted(PACKAGE.glob("*.py"))}
        self.trees = {name: ast.parse(text) for name, text in self.texts.items()}

    def nodes(self):
        return [(name, node) for name, tree in self.trees.items() for node in ast.walk(tree)]

    def test_files(self):
        self.assertEqual(sorted(self.texts), ["__init__.py", "lacings.py"])
        lying = [path.name for path in PACKAGE.iterdir() if path.name != "__pycache__"]
        self.assertEqual(sorted(lying), sorted(self.texts))

    def test_signs_and_sizes(self):
        for name, text in self.texts.items():
            self.assertIsNone(re.search(r"[^ -~\n]", text), name)
            self.assertLessEqual(len(text.splitlines()), 400, name)
            self.assertLessEqual(max(map(len, text.splitlines())), 120, name)
        for name, node in self.nodes():
            if isinstance(node, ast.FunctionDef):
                self.assertLessEqual(node.end_lineno - node.lineno + 1, 40, (name, node.name))
                self.assertEqual(node.decorator_list, [], (name, node.name))

    def test_statements_and_expressions(self):
        for name, node in self.nodes():
            self.assertNotIsInstance(node, UNWANTED, (name, getattr(node, "lineno", 0)))
            if isinstance(node, ast.Constant):
                self.assertNotIsInstance(node.value, (float, bytes, complex), name)

    def test_words(self):
        for name, text in self.texts.items():
            self.assertIsNone(WORDS.search(text), name)

    def test_names_are_bound_in_the_package_or_allowed(self):
        for name, tree in self.trees.items():
            named = [node for node in ast.walk(tree) if isinstance(node, ast.Name)]
            bound = {node.id for node in named if isinstance(node.ctx, ast.Store)}
            bound |= {node.name for node in ast.walk(tree) if isinstance(node, (ast.FunctionDef, ast.ClassDef))}
            bound |= {node.arg for node in ast.walk(tree) if isinstance(node, ast.arg)}
            read = {node.id for node in named if isinstance(node.ctx, ast.Load)}
            self.assertEqual(read - bound - BUILTINS, set(), name)
            self.assertEqual([word for word in bound if word.startswith("_") and word != "__init__"], [], name)


if __name__ == "__main__":
    unittest.main()
