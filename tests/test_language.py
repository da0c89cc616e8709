"""The rules of LANGUAGE.md that a glance at the syntax can check; the others are for a reader."""

import ast
import builtins
import pathlib
import re
import unittest

import everyhint

FOLDER = pathlib.Path(everyhint.__file__).parent
FILES = sorted(path for path in FOLDER.rglob("*") if "__pycache__" not in path.parts)
CALLED = ["len", "range", "enumerate", "zip", "min", "max", "sum", "abs", "sorted", "reversed", "int", "str", "bool",
          "list", "tuple", "dict", "set", "isinstance", "ord", "repr", "any", "all", "divmod", "iter", "next",
          "property", "ValueError", "TypeError", "KeyError", "NotImplemented"]
TAKE_LISTS = ["any", "all", "min", "max", "sum", "sorted"]
BARRED_NODES = (ast.Global, ast.AsyncFunctionDef, ast.Await, ast.Div, ast.Import)
BARRED_WORDS = ["type", "typing", "enum", "Enum", "Generic", "Protocol", "ABC", "namedtuple", "_wall", "Meta"]
BARRED_NAMES = ["register", "mro", "elements", "open", "input", "law", "format", "keys", "chr", "bytes"]
LIBRARY = {"math": ["gcd", "lcm"]}


def trees():
    return [(path.name, ast.parse(path.read_text())) for path in FILES]


def nodes():
    return [(name, node) for name, tree in trees() for node in ast.walk(tree)]


def imported_files(tree):
    """The names of the files of the package from which a file imports."""
    modules = [node.module for node in tree.body if isinstance(node, ast.ImportFrom)]
    return [module.split(".")[1] + ".py" for module in modules if module.startswith("everyhint.")]


def docstrings(tree):
    """The nodes of the docstrings of a file."""
    found = []
    for node in ast.walk(tree):
        if isinstance(node, (ast.Module, ast.ClassDef, ast.FunctionDef)) and ast.get_docstring(node) is not None:
            found.append(node.body[0].value)
    return found


class LanguageTest(unittest.TestCase):
    def test_files(self):
        for path in FILES:
            self.assertRegex(path.name, r"^[a-z_]+\.py$")
            text = path.read_text()
            self.assertRegex(text, r"\A[ -~\n]*\Z")
            lines = text.splitlines()
            self.assertLessEqual(len(lines), 399, path.name)
            for line in lines:
                self.assertLessEqual(len(line), 120, path.name)

    def test_functions_are_short_and_have_no_decorators_but_property(self):
        for name, node in nodes():
            if isinstance(node, ast.FunctionDef):
                self.assertLessEqual(node.end_lineno - node.lineno + 1, 40, (name, node.name))
                if node.decorator_list:
                    found = [ast.unparse(each) for each in node.decorator_list]
                    parameters = [each.arg for each in node.args.args]
                    self.assertEqual([found, parameters], [["property"], ["self"]], (name, node.name))

    def test_no_barred_syntax(self):
        for name, node in nodes():
            self.assertNotIsInstance(node, BARRED_NODES, name)
            if isinstance(node, ast.Constant):
                self.assertNotIsInstance(node.value, (float, bytes, complex), name)

    def test_imports_name_files_of_the_package(self):
        for name, node in nodes():
            if isinstance(node, ast.ImportFrom):
                found = [each.name for each in node.names]
                self.assertEqual([each.asname for each in node.names], [None] * len(found))
                if node.module in LIBRARY:
                    self.assertEqual(sorted(set(found) - set(LIBRARY[node.module])), [], name)
                else:
                    self.assertRegex(node.module, r"^everyhint\.[a-z]+$", name)

    def test_no_file_imports_itself_by_way_of_others(self):
        behind = {name: imported_files(tree) for name, tree in trees()}
        left = sorted(behind)
        while left:
            free = [name for name in left if not set(behind[name]) & set(left)]
            self.assertNotEqual(free, [], left)
            left = [name for name in left if name not in free]

    def test_what_looks_at_truth_or_order_takes_lists(self):
        for name, node in nodes():
            if isinstance(node, ast.Call) and isinstance(node.func, ast.Name) and node.func.id in TAKE_LISTS:
                self.assertEqual([each for each in node.args if isinstance(each, ast.GeneratorExp)], [], name)

    def test_builtins_keep_their_meaning_and_only_some_are_used(self):
        for name, node in nodes():
            given = []
            if isinstance(node, ast.Name):
                if isinstance(node.ctx, ast.Store):
                    given = [node.id]
                elif hasattr(builtins, node.id):
                    self.assertIn(node.id, CALLED, name)
            elif isinstance(node, ast.arg):
                given = [node.arg]
            elif isinstance(node, (ast.FunctionDef, ast.ClassDef)):
                given = [node.name]
            for each in given:
                self.assertFalse(hasattr(builtins, each) and not each.startswith("__"), (name, each))

    def test_no_local_name_hides_an_import(self):
        for name, tree in trees():
            imported = [each.name for node in tree.body if isinstance(node, ast.ImportFrom) for each in node.names]
            classes = [node.name for node in tree.body if isinstance(node, ast.ClassDef)]
            for node in ast.walk(tree):
                if isinstance(node, ast.Name) and isinstance(node.ctx, ast.Store):
                    self.assertNotIn(node.id, imported + classes, name)
                if isinstance(node, ast.arg):
                    self.assertNotIn(node.arg, imported + classes, name)

    def test_names(self):
        for name, node in nodes():
            for each in [getattr(node, "id", ""), getattr(node, "attr", ""), getattr(node, "arg", "")]:
                self.assertNotIn(each, BARRED_NAMES, name)
                self.assertFalse((each or "").startswith("__"), name)

    def test_strings_and_words(self):
        for name, tree in trees():
            told = docstrings(tree)
            for node in ast.walk(tree):
                if isinstance(node, ast.Constant) and isinstance(node.value, str):
                    self.assertNotIn("%", node.value, name)
                    if node not in told:
                        for word in BARRED_WORDS:
                            self.assertNotIn(word, re.findall(r"\w+", node.value), name)


if __name__ == "__main__":
    unittest.main()
