"""The interface as it stands in the document, and the form of the package's files."""

import ast
import inspect
import pathlib
import unittest

import goodkinds.graphs

PACKAGE = pathlib.Path(goodkinds.graphs.__file__).parent
ONE_GRAPH = (
    "judge", "chordal", "sides", "split", "steps", "nopath", "interval", "directed", "cliques", "numbers", "colours",
    "apart", "modules", "turned",
)


class Interface(unittest.TestCase):
    def arguments(self, name):
        return list(inspect.signature(getattr(goodkinds.graphs, name)).parameters)

    def test_names_and_arguments(self):
        for name in ONE_GRAPH:
            self.assertEqual(self.arguments(name), ["graph"], name)
        self.assertEqual(self.arguments("part"), ["nodes", "graph"])


class Files(unittest.TestCase):
    def setUp(self):
        self.texts = {path.name: path.read_text("utf-8") for path in sorted(PACKAGE.glob("*.py"))}

    def test_plain_signs_and_size(self):
        for name, text in self.texts.items():
            rows = text.split("\n")
            self.assertLessEqual(len(rows), 400, name)
            for row in rows:
                self.assertLessEqual(len(row), 120, (name, row))
                self.assertTrue(all(" " <= sign <= "~" for sign in row), (name, row))

    def test_functions_are_short(self):
        for name, text in self.texts.items():
            for node in ast.walk(ast.parse(text)):
                if isinstance(node, ast.FunctionDef):
                    self.assertLessEqual(node.end_lineno - node.lineno + 1, 40, (name, node.name))

    def test_nothing_is_imported_printed_or_read(self):
        for name, text in self.texts.items():
            for node in ast.walk(ast.parse(text)):
                self.assertNotIsInstance(node, (ast.Import, ast.ImportFrom), name)
                if isinstance(node, ast.Name):
                    self.assertNotIn(node.id, ("print", "open", "input"), name)


if __name__ == "__main__":
    unittest.main()
