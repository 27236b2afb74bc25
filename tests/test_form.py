"""The part of the code's form that can be seen at a glance: signs, sizes, imports, names."""

import ast
import re
import unittest
from pathlib import Path

PACKAGE = Path(__file__).resolve().parent.parent / "beatall"
FILES = sorted(path for path in PACKAGE.rglob("*") if path.is_file() and path.parent.name != "__pycache__")

OWN_NAMES = set("""len range enumerate zip min max sum abs sorted reversed int str bool list tuple dict set
    frozenset isinstance ord repr any all divmod""".split())
WORDS = re.compile(r"\b(type|typing|typing_extensions|enum|Enum|IntEnum|StrEnum|Flag|IntFlag|Generic|Protocol"
                   r"|ABC|ABCMeta|namedtuple|NamedTuple|TypedDict|TYPE_CHECKING|abstractmethod)\b"
                   r"|dataclass|overload|contextmanager")
LEFT_OUT = (ast.With, ast.Match, ast.Delete, ast.Global, ast.Nonlocal, ast.Assert, ast.Yield, ast.YieldFrom,
            ast.AsyncFunctionDef, ast.GeneratorExp, ast.SetComp, ast.DictComp, ast.NamedExpr, ast.Starred,
            ast.Div, ast.Import, ast.ImportFrom)


class Form(unittest.TestCase):
    def test_the_files(self):
        self.assertEqual([path.name for path in FILES], ["__init__.py", "league.py"])

    def test_signs_and_sizes(self):
        for path in FILES:
            text = path.read_bytes().decode("ascii")
            rows = text.split("\n")
            with self.subTest(path=path.name):
                self.assertTrue(all(sign == "\n" or " " <= sign <= "~" for sign in text))
                self.assertLessEqual(len(rows), 400)
                self.assertLessEqual(max(len(row) for row in rows), 120)
                self.assertIsNone(WORDS.search(text))

    def test_functions_and_statements(self):
        for path in FILES:
            for node in ast.walk(ast.parse(path.read_text(encoding="ascii"))):
                with self.subTest(path=path.name, row=getattr(node, "lineno", 0)):
                    self.assertNotIsInstance(node, LEFT_OUT)
                    if isinstance(node, ast.FunctionDef):
                        self.assertLessEqual(node.end_lineno - node.lineno + 1, 40)
                        self.assertEqual(node.decorator_list, [])
                    if isinstance(node, ast.BinOp) and isinstance(node.op, ast.Pow):
                        self.assertIsInstance(node.right, ast.Constant)

    def test_no_other_name_of_pythons_own(self):
        for path in FILES:
            tree = ast.parse(path.read_text(encoding="ascii"))
            bound = {node.id for node in ast.walk(tree)
                     if isinstance(node, ast.Name) and isinstance(node.ctx, ast.Store)}
            bound |= {node.arg for node in ast.walk(tree) if isinstance(node, ast.arg)}
            bound |= {node.name for node in ast.walk(tree) if isinstance(node, (ast.FunctionDef, ast.ClassDef))}
            read = {node.id for node in ast.walk(tree) if isinstance(node, ast.Name)}
            with self.subTest(path=path.name):
                self.assertEqual(read - bound - OWN_NAMES, set())
                self.assertEqual(bound & OWN_NAMES, set())


if __name__ == "__main__":
    unittest.main()
