import ast
import contextlib
import inspect
import io
import unittest

from towerorwalk import graphs


class Interface(unittest.TestCase):
    def test_names_and_arguments(self):
        self.assertEqual(list(inspect.signature(graphs.tower).parameters), ["n", "k", "first"])
        self.assertEqual(list(inspect.signature(graphs.longest).parameters), ["n", "first"])
        self.assertEqual(list(inspect.signature(graphs.lift).parameters), ["n", "first"])
        self.assertEqual(list(inspect.signature(graphs.walk).parameters), ["n", "k", "first"])
        self.assertEqual(list(inspect.signature(graphs.colours).parameters), ["n", "first"])
        self.assertEqual(list(inspect.signature(graphs.least).parameters), ["n", "first"])

    def test_it_imports_nothing(self):
        imports = [node for node in ast.walk(ast.parse(inspect.getsource(graphs)))
                   if isinstance(node, (ast.Import, ast.ImportFrom))]
        self.assertEqual(imports, [])

    def test_it_prints_nothing(self):
        printed = io.StringIO()
        with contextlib.redirect_stdout(printed), contextlib.redirect_stderr(printed):
            graphs.tower(3, 2, [0, 1, 1, 2])
            graphs.tower(3, 3, [0, 1, 1, 2])
            graphs.tower(0, 0, [1])
            graphs.longest(3, [0, 1, 1, 2])
            graphs.longest(3, [0, 1, 1, 0])
            graphs.longest(0, [1])
            graphs.lift(3, [0, 1, 1, 2])
            graphs.lift(3, [0, 1, 1, 0])
            graphs.lift(0, [1])
            graphs.walk(3, 2, [0, 1, 1, 2])
            graphs.walk(3, 3, [0, 1, 1, 2])
            graphs.walk(0, 13, [1])
            graphs.colours(3, [0, 1, 1, 2])
            graphs.colours(3, [0, 1, 1, 2, 2, 0])
            graphs.colours(0, [1])
            graphs.least(3, [0, 1, 1, 2])
            graphs.least(3, [0, 1, 1, 1])
            graphs.least(0, [1])
        self.assertEqual(printed.getvalue(), "")


if __name__ == "__main__":
    unittest.main()
