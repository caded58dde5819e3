"""The interface's names, arguments and files; [1]: no clock, no chance, no files."""

import ast
import importlib
import inspect
import pathlib
import unittest

import mailslots
from mailslots.posts import Post

FOLDER = pathlib.Path(mailslots.__file__).parent
LIBRARY = {"heapq", "math", "itertools", "collections"}
INTERFACE = {
    "towns": {"lives": ["town", "person", "day"], "holds": ["town", "office", "person", "day"]},
    "ways": {"way": ["town", "letter"]},
    "rings": {"rings": ["town", "person", "day"]},
    "reasons": {"why": ["town", "letter"]},
    "posts": {"Post": ["town"]},
    "moving": {"to_give": ["town", "person", "keep"], "failing": ["town", "person", "keep"]},
    "texts": {"written": ["town"], "with_orders": ["town", "text"]},
}
POST = {"put": ["letter"], "pass_to": ["day"], "under_way": [], "time": []}
ERRORS = {"MailError", "BadTown", "BadLetter", "BadTime", "BadPerson", "BadKeep", "BadText"}


def trees():
    return [(path, ast.parse(path.read_text(encoding="ascii"))) for path in sorted(FOLDER.glob("*.py"))]


def defined_in(name):
    kinds = (ast.FunctionDef, ast.ClassDef)
    return {node.name for path, tree in trees() if path.stem == name for node in tree.body if isinstance(node, kinds)}


class InterfaceTest(unittest.TestCase):
    def test_each_name_is_defined_in_its_file(self):
        for name, functions in INTERFACE.items():
            self.assertLessEqual(set(functions), defined_in(name))
        self.assertEqual(defined_in("errors"), ERRORS)

    def test_the_arguments_have_the_names_of_the_interface(self):
        for name, functions in INTERFACE.items():
            module = importlib.import_module(f"mailslots.{name}")
            for function, arguments in functions.items():
                told = inspect.signature(getattr(module, function))
                self.assertEqual(list(told.parameters), arguments)

    def test_the_methods_stand_in_the_class_itself(self):
        for name, arguments in POST.items():
            told = inspect.signature(vars(Post)[name])
            self.assertEqual(list(told.parameters), ["self", *arguments])


class OnlyNumbersTest(unittest.TestCase):
    def test_nothing_is_imported_that_could_reach_outside(self):
        for path, tree in trees():
            for node in ast.walk(tree):
                self.assertNotIsInstance(node, ast.Import, path.name)
                if isinstance(node, ast.ImportFrom):
                    self.assertIn(node.module.split(".")[0], LIBRARY | {"mailslots"}, path.name)

    def test_no_builtin_is_named_that_could_reach_outside(self):
        outside = {"open", "input", "print", "eval", "exec", "compile", "globals", "hash", "id"}
        for path, tree in trees():
            names = {node.id for node in ast.walk(tree) if isinstance(node, ast.Name)}
            self.assertEqual(names & outside, set(), path.name)

    def test_no_state_at_module_level(self):
        for path, tree in trees():
            for node in tree.body:
                if isinstance(node, ast.Assign):
                    self.assertIsInstance(node.value, (ast.Constant, ast.Tuple), path.name)


if __name__ == "__main__":
    unittest.main()
