"""What can be counted of ../shared/LANGUAGE.md: files, imports, builtins, statements, sizes and characters."""

import ast
import builtins
import os
import re
import unittest

FOLDER = os.path.join(os.path.dirname(os.path.dirname(os.path.abspath(__file__))), "tearwords")
ALLOWED = set("""len range enumerate zip min max sum abs sorted reversed int str bool list tuple dict set isinstance
    ord repr any all divmod pow property ValueError TypeError KeyError IndexError LookupError Exception iter next""".split())
BARRED = re.compile(r"\b(type|typing|enum|Enum|Generic|Protocol|ABC|namedtuple|abstractmethod|mro|input)\b")
STATEMENTS = (
    ast.Assign, ast.AugAssign, ast.If, ast.While, ast.For, ast.Return, ast.Break, ast.Continue, ast.Pass, ast.Raise,
    ast.Assert, ast.Delete, ast.With, ast.Try, ast.Expr, ast.FunctionDef, ast.ClassDef, ast.ImportFrom, ast.Yield,
)


def sources():
    found = []
    for name in sorted(os.listdir(FOLDER)):
        if name != "__pycache__":
            with open(os.path.join(FOLDER, name), encoding="utf-8") as file:
                found.append((name, file.read()))
    return found


def nodes():
    return [(name, node) for name, text in sources() for node in ast.walk(ast.parse(text))]


class LanguageTest(unittest.TestCase):
    def test_files(self):
        names = [name for name, _ in sources()]
        self.assertIn("__init__.py", names)
        for name in names:
            self.assertRegex(name, r"^[a-z_]+\.py$")
            self.assertFalse(name.startswith(("test", "law")))

    def test_sizes_and_characters(self):
        for name, text in sources():
            self.assertLessEqual(len(text.splitlines()), 399, name)
            for line in text.splitlines():
                self.assertLessEqual(len(line), 120, name)
                self.assertRegex(line, r"^[ -~]*$", name)

    def test_functions(self):
        for name, node in nodes():
            if isinstance(node, (ast.FunctionDef, ast.ClassDef)):
                self.assertLessEqual(node.end_lineno - node.lineno + 1, 40 if isinstance(node, ast.FunctionDef) else 399)
                self.assertTrue(ast.get_docstring(node) or node.name.startswith("_"), (name, node.name))

    def test_imports(self):
        for name, node in nodes():
            self.assertNotIsInstance(node, ast.Import, name)
            if isinstance(node, ast.ImportFrom):
                if node.module == "heapq":
                    self.assertLessEqual({part.name for part in node.names}, {"heappush", "heappop"}, name)
                else:
                    self.assertRegex(node.module, r"^tearwords\.[a-z]+$", name)
                self.assertTrue(all([part.asname is None for part in node.names]), name)
                self.assertEqual(node.level, 0)

    def test_statements_and_names(self):
        for name, node in nodes():
            if isinstance(node, ast.stmt):
                self.assertIsInstance(node, STATEMENTS, name)
            if isinstance(node, ast.Name) and hasattr(builtins, node.id):
                self.assertIn(node.id, ALLOWED, name)
            if isinstance(node, ast.Constant):
                self.assertNotIsInstance(node.value, (float, complex), name)

    def test_words(self):
        for name, text in sources():
            self.assertIsNone(BARRED.search(text), name)
        for name, node in nodes():
            if isinstance(node, ast.Constant) and isinstance(node.value, str):
                self.assertNotIn("%", node.value, name)

    def test_ends_of_stretches(self):
        exits = [node for _, node in nodes() if isinstance(node, ast.FunctionDef) and node.name == "__exit__"]
        self.assertEqual(len(exits), 1)
        for row in exits[0].body:
            self.assertIsInstance(row, ast.Assign)
            self.assertIsInstance(row.value, ast.Attribute)
            self.assertTrue(all([isinstance(target, ast.Attribute) for target in row.targets]))

    def test_double_underscores(self):
        allowed = {"__init__", "__len__", "__enter__", "__exit__"}
        for name, node in nodes():
            for told in (getattr(node, "name", None), getattr(node, "id", None), getattr(node, "attr", None)):
                if isinstance(told, str) and told.startswith("__"):
                    self.assertIn(told, allowed, name)

    def test_properties_are_assigned_by_no_name(self):
        properties = {
            node.name for _, node in nodes() if isinstance(node, ast.FunctionDef)
            and any([isinstance(some, ast.Name) and some.id == "property" for some in node.decorator_list])
        }
        self.assertEqual(properties, {"rule"})
        for name, node in nodes():
            if isinstance(node, ast.Attribute) and isinstance(node.ctx, ast.Store):
                self.assertNotIn(node.attr, properties, name)


if __name__ == "__main__":
    unittest.main()
