"""The form of the package's code: the rules of the Python subset that a short check can see."""

import ast
import builtins
import os
import unittest

import climbrow

FOLDER = os.path.dirname(os.path.abspath(climbrow.__file__))
BUILTINS = set("""len range enumerate zip min max sum abs sorted reversed int str bool list tuple dict set isinstance ord
repr any all divmod map iter next super Exception ValueError TypeError KeyError IndexError NotImplemented
property staticmethod classmethod""".split())
LIBRARY = {"heapq", "math", "itertools", "collections"}
BARRED_WORDS = set("""type typing enum Enum Generic Protocol ABC namedtuple dataclass overload contextmanager
abstractmethod""".split())
BARRED_NAMES = BARRED_WORDS | set("""register mro elements open input law os sys globals locals vars eval exec compile
delattr dir help id""".split())
STATEMENTS = (ast.Assign, ast.AugAssign, ast.AnnAssign, ast.If, ast.While, ast.For, ast.Return, ast.Break, ast.Continue,
              ast.Pass, ast.Raise, ast.Assert, ast.Delete, ast.Nonlocal, ast.Match, ast.With, ast.Try, ast.Expr,
              ast.FunctionDef, ast.ClassDef, ast.ImportFrom)
FUNCTIONS = (ast.FunctionDef, ast.Lambda)


def sources():
    """All files of the package: name, text and tree."""
    found = []
    for name in sorted(os.listdir(FOLDER)):
        if name != "__pycache__":
            with open(os.path.join(FOLDER, name), encoding="utf-8") as file:
                text = file.read()
            found.append((name, text, ast.parse(text)))
    return found


SOURCES = sources()


def nodes(kind):
    return [(name, node) for name, _, tree in SOURCES for node in ast.walk(tree) if isinstance(node, kind)]


def bound_names(function):
    """The parameters and local variables of a function."""
    found = {node.arg for node in ast.walk(function) if isinstance(node, ast.arg)}
    return found | {node.id for node in ast.walk(function)
                    if isinstance(node, ast.Name) and isinstance(node.ctx, ast.Store)}


def docstrings(tree):
    return {id(node.body[0].value) for node in ast.walk(tree)
            if isinstance(node, (ast.Module, ast.ClassDef, ast.FunctionDef)) and ast.get_docstring(node)}


class FormTest(unittest.TestCase):

    def test_files_and_characters(self):
        for name, text, _ in SOURCES:
            self.assertRegex(name, r"\A[a-z0-9_]+\.py\Z")
            self.assertEqual([c for c in text if c != "\n" and not " " <= c <= "~"], [], name)
            lines = text.split("\n")
            self.assertLessEqual(len(lines), 399, name)
            self.assertLessEqual(max(len(line) for line in lines), 120, name)

    def test_functions_have_at_most_40_lines(self):
        for name, node in nodes(ast.FunctionDef):
            self.assertLessEqual(node.end_lineno - node.lineno + 1, 40, (name, node.name))

    def test_module_level(self):
        for name, _, tree in SOURCES:
            for node in tree.body:
                kinds = (ast.Expr, ast.ImportFrom, ast.FunctionDef, ast.ClassDef, ast.Assign)
                self.assertIsInstance(node, kinds, name)

    def test_statements(self):
        for name, node in nodes(ast.stmt):
            self.assertIsInstance(node, STATEMENTS, (name, node.lineno))

    def test_imports_name_the_file_that_defines_the_name(self):
        defined = {f"climbrow.{name[:-3]}": {node.name for node in tree.body if hasattr(node, "name")}
                   | {target.id for node in tree.body if isinstance(node, ast.Assign) for target in node.targets}
                   for name, _, tree in SOURCES}
        for name, node in nodes(ast.ImportFrom):
            if node.module not in LIBRARY:
                for part in node.names:
                    self.assertIn(part.name, defined[node.module], name)
                    self.assertIsNone(part.asname, name)

    def test_no_two_files_import_from_each_other(self):
        links = {}
        for name, node in nodes(ast.ImportFrom):
            links.setdefault(f"climbrow.{name[:-3]}", set()).add(node.module)
        for start in links:
            reached, waiting = set(), list(links[start])
            while waiting:
                module = waiting.pop()
                if module not in reached:
                    reached.add(module)
                    waiting.extend(links.get(module, ()))
            self.assertNotIn(start, reached)

    def test_imports_are_used(self):
        for name, _, tree in SOURCES:
            imported = {part.name for node in tree.body if isinstance(node, ast.ImportFrom) for part in node.names}
            used = {node.id for node in ast.walk(tree) if isinstance(node, ast.Name)}
            self.assertEqual(imported - used, set(), name)

    def test_no_name_hides_a_builtin_an_import_or_a_class(self):
        for name, _, tree in SOURCES:
            taken = {part.name for node in tree.body if isinstance(node, ast.ImportFrom) for part in node.names}
            taken |= {node.name for node in tree.body if isinstance(node, ast.ClassDef)} | set(dir(builtins))
            for node in ast.walk(tree):
                if isinstance(node, FUNCTIONS):
                    self.assertEqual(bound_names(node) & taken, set(), (name, node.lineno))

    def test_names_are_bound_once_at_module_level(self):
        for name, _, tree in SOURCES:
            bound = [node.name for node in tree.body if hasattr(node, "name")]
            bound += [part.name for node in tree.body if isinstance(node, ast.ImportFrom) for part in node.names]
            bound += [target.id for node in tree.body if isinstance(node, ast.Assign) for target in node.targets]
            self.assertEqual(len(bound), len(set(bound)), name)

    def test_builtins(self):
        for name, node in nodes(ast.Name):
            if node.id in dir(builtins):
                self.assertIn(node.id, BUILTINS, (name, node.lineno))

    def test_no_floats_and_no_barred_words(self):
        for name, _, tree in SOURCES:
            told = docstrings(tree)
            for node in ast.walk(tree):
                self.assertNotIsInstance(node, ast.Div, name)
                if isinstance(node, ast.Constant) and id(node) not in told:
                    self.assertNotIsInstance(node.value, (float, complex), name)
                    if isinstance(node.value, str):
                        self.assertNotIn("%", node.value, name)
                        self.assertEqual(set(node.value.split()) & BARRED_WORDS, set(), name)
                for word in (getattr(node, "id", ""), getattr(node, "arg", ""), getattr(node, "attr", "")):
                    self.assertNotIn(word, BARRED_NAMES, name)


if __name__ == "__main__":
    unittest.main()
