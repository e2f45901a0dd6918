"""The form of the package: what it imports, and how long its parts are."""

import ast
import pathlib
import unittest

PACKAGE = pathlib.Path(__file__).resolve().parent.parent / "drillrounds"


class Form(unittest.TestCase):
    def setUp(self):
        self.files = sorted(PACKAGE.glob("*.py"))
        self.texts = [path.read_text(encoding="utf-8") for path in self.files]
        self.trees = [ast.parse(text) for text in self.texts]

    def nodes(self, *kinds):
        return [node for tree in self.trees for node in ast.walk(tree) if isinstance(node, kinds)]

    def test_it_lies_at_the_top(self):
        names = [path.name for path in self.files]
        self.assertIn("__init__.py", names)
        self.assertIn("board.py", names)

    def test_nothing_is_imported_but_its_own(self):
        self.assertEqual(self.nodes(ast.Import), [])
        for node in self.nodes(ast.ImportFrom):
            self.assertEqual(node.level, 0)
            self.assertTrue(node.module.startswith("drillrounds."), node.module)

    def test_nothing_is_printed_or_read(self):
        names = {node.id for node in self.nodes(ast.Name)}
        self.assertEqual(names & {"print", "open", "input", "eval", "exec"}, set())

    def test_sizes_and_signs(self):
        for path, text in zip(self.files, self.texts):
            lines = text.split("\n")
            self.assertLessEqual(len(lines), 400, path)
            self.assertLessEqual(max(len(line) for line in lines), 120, path)
            self.assertTrue(all(" " <= sign <= "~" or sign == "\n" for sign in text), path)
        for node in self.nodes(ast.FunctionDef):
            self.assertLessEqual(node.end_lineno - node.lineno + 1, 40, node.name)


if __name__ == "__main__":
    unittest.main()
