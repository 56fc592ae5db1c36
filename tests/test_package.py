"""Point 2 and the bounds of ../shared/LANGUAGE.md that can be read off the files."""

import ast
import builtins
import unittest
import warnings
from pathlib import Path

PACKAGE = Path(__file__).resolve().parent.parent / "roomyway"
LIBRARY = {"__future__", "collections", "heapq", "itertools", "math"}


def sources():
    return sorted(PACKAGE.rglob("*.py"))


def is_allowed_import(node):
    if not isinstance(node, ast.ImportFrom) or node.level:
        return False
    return node.module in LIBRARY or node.module.split(".")[0] == "roomyway"


def bound_in(function):
    """The names of the parameters and local variables of a function."""
    arguments = function.args
    names = [one.arg for one in arguments.posonlyargs + arguments.args + arguments.kwonlyargs]
    names += [one.arg for one in (arguments.vararg, arguments.kwarg) if one]
    return names + [node.id for node in ast.walk(function)
                    if isinstance(node, ast.Name) and isinstance(node.ctx, ast.Store)]


class Package(unittest.TestCase):

    def each_node(self):
        for path in sources():
            for node in ast.walk(ast.parse(path.read_text("utf-8"))):
                yield path, node

    def test_there_are_only_python_files(self):
        self.assertTrue((PACKAGE / "__init__.py").is_file())
        for path in PACKAGE.rglob("*"):
            if path.is_file() and "__pycache__" not in path.parts:
                self.assertEqual(path.suffix, ".py", path)

    def test_nothing_from_outside_is_imported(self):
        for path, node in self.each_node():
            if isinstance(node, (ast.Import, ast.ImportFrom)):
                self.assertTrue(is_allowed_import(node), (path, node.lineno))

    def test_what_is_imported_is_defined_there(self):
        for path, node in self.each_node():
            if isinstance(node, ast.ImportFrom) and node.module.startswith("roomyway."):
                source = (PACKAGE / f"{node.module.split('.')[1]}.py").read_text("utf-8")
                defined = [one.name for one in ast.parse(source).body if hasattr(one, "name")]
                defined += [one.targets[0].id for one in ast.parse(source).body if isinstance(one, ast.Assign)]
                for one in node.names:
                    self.assertIsNone(one.asname, path)
                    self.assertIn(one.name, defined, path)

    def test_names_have_one_meaning(self):
        for path in sources():
            tree = ast.parse(path.read_text("utf-8"))
            taken = set(dir(builtins))
            for node in tree.body:
                if isinstance(node, ast.ImportFrom):
                    taken |= {one.name for one in node.names}
                if isinstance(node, ast.ClassDef):
                    taken.add(node.name)
            for node in ast.walk(tree):
                if isinstance(node, ast.FunctionDef):
                    self.assertFalse(taken & set(bound_in(node)), (path, node.name))

    def test_what_is_imported_is_used(self):
        for path in sources():
            tree = ast.parse(path.read_text("utf-8"))
            used = {node.id for node in ast.walk(tree) if isinstance(node, ast.Name)}
            for node in tree.body:
                if isinstance(node, ast.ImportFrom):
                    self.assertLessEqual({one.name for one in node.names}, used, path)

    def test_no_floating_point(self):
        for path, node in self.each_node():
            self.assertNotIsInstance(node, ast.Div, path)
            if isinstance(node, ast.Constant):
                self.assertNotIsInstance(node.value, (float, complex), (path, node.lineno))

    def test_python_warns_of_nothing(self):
        for path in sources():
            with warnings.catch_warnings():
                warnings.simplefilter("error")
                compile(path.read_text("utf-8"), str(path), "exec")

    def test_sizes_and_characters(self):
        for path in sources():
            text = path.read_text("utf-8")
            self.assertTrue(all(sign == "\n" or " " <= sign <= "~" for sign in text), path)
            lines = text.splitlines()
            self.assertLessEqual(len(lines), 399, path)
            self.assertLessEqual(max([len(line) for line in lines], default=0), 120, path)

    def test_functions_are_small(self):
        for path, node in self.each_node():
            if isinstance(node, ast.FunctionDef):
                self.assertLessEqual(node.end_lineno - node.lineno + 1, 40, (path, node.name))


if __name__ == "__main__":
    unittest.main()
