"""What can be counted of ../shared/LANGUAGE.md: files, imports, builtins, statements, sizes and characters."""

import ast
import builtins
import os
import re
import unittest

FOLDER = os.path.join(os.path.dirname(os.path.dirname(os.path.abspath(__file__))), "tearwords")
ALLOWED = set("""len range enumerate zip min max sum abs sorted reversed int str bool list tuple dict set isinstance
    ord repr any all divmod pow ValueError TypeError KeyError IndexError LookupError Exception iter next""".split())
BARRED = re.compile(r"\b(type|typing|enum|Enum|Generic|Protocol|ABC|namedtuple|abstractmethod|mro|input)\b")
STATEMENTS = (
    ast.Assign, ast.AugAssign, ast.If, ast.While, ast.For, ast.Return, ast.Break, ast.Continue, ast.Pass, ast.Raise,
    ast.Assert, ast.Delete, ast.With, ast.Try, ast.Expr, ast.FunctionDef, ast.ClassDef, ast.ImportFrom, ast.Yield,
)


def sources():
    found = []
    for name in sorted(os.listdir(FOLDER)):
        if name != "__pycache__":
            with open(os.path.join(FOLDER, name), encoding="utf-8") as file:
                found.append((name, file.read()))
    return found


def nodes():
    return [(name, node) for name, text in sources() for node in ast.walk(ast.parse(text))]


class LanguageTest(unittest.TestCase):
    def test_files(self):
        names = [name for name, _ in sources()]
        self.assertIn("__init__.py", names)
        for name in names:
            self.assertRegex(name, r"^[a-z_]+\.py$")
            self.assertFalse(name.startswith(("test", "law")))

    def test_sizes_and_characters(self):
        for name, text in sources():
            self.assertLessEqual(len(text.splitlines()), 399, name)
            for line in text.splitlines():
                self.assertLessEqual(len(line), 120, name)
                self.assertRegex(line, r"^[ -~]*$", name)

    def test_functions(self):
        for name, node in nodes():
            if isinstance(node, (ast.FunctionDef, ast.ClassDef)):
                self.assertLessEqual(node.end_lineno - node.lineno + 1, 40 if isinstance(node, ast.FunctionDef) else 399)
                self.assertTrue(ast.get_docstring(node) or node.name.startswith("_"), (name, node.name))

    def test_imports(self):
        for name, node in nodes():
            self.assertNotIsInstance(node, ast.Import, name)
            if isinstance(node, ast.ImportFrom):
                if node.module == "heapq":
                    self.assertLessEqual({part.name for part in node.names}, {"heappush", "heappop"}, name)
                else:
                    self.assertRegex(node.module, r"^tearwords\.[a-z]+$", name)
                self.assertTrue(all([part.asname is None for part in node.names]), name)
                self.assertEqual(node.level, 0)

    def test_statements_and_names(self):
        for name, node in nodes():
            if isinstance(node, ast.stmt):
                self.assertIsInstance(node, STATEMENTS, name)
            if isinstance(node, ast.Name) and hasattr(builtins, node.id):
                self.assertIn(node.id, ALLOWED, name)
            if isinstance(node, ast.Constant):
                self.assertNotIsInstance(node.value, (float, complex), name)

    def test_words(self):
        for name, text in sources():
            self.assertIsNone(BARRED.search(text), name)
            self.assertNotIn("%", text, name)


if __name__ == "__main__":
    unittest.main()
