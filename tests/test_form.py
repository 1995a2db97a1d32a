"""The form of the package's files: the rules of its small language that a look at the code can tell."""

import ast
import builtins
import os
import re
import unittest

ROOT = os.path.dirname(os.path.dirname(os.path.abspath(__file__)))
PACKAGE = os.path.join(ROOT, "deducehall")
BUILTINS = (
    "len range enumerate zip min max sum abs sorted reversed int str bool bytes list tuple dict set isinstance ord repr"
    " any all divmod ValueError KeyError"
).split()
METHODS = (
    "append clear copy count endswith extend find get index insert isalnum isalpha isdigit islower isspace isupper"
    " items join keys ljust lower lstrip partition pop remove replace reverse rfind rjust rpartition rsplit rstrip"
    " setdefault split splitlines startswith strip update upper values zfill bit_length"
).split()
BARRED = (
    "register mro elements open input law version_info with_traceback add_note type typing enum namedtuple dataclass"
    " globals locals exec eval compile id dir vars getattr setattr hasattr super exit quit help os sys"
).split()
# What may stand among the imports beside the package's own modules.
LIBRARY = {"heapq": ("heappop", "heappush")}
UNUSED = (
    ast.Lambda, ast.Global, ast.Nonlocal, ast.AsyncFunctionDef, ast.Await, ast.Yield, ast.YieldFrom, ast.GeneratorExp,
    ast.Set, ast.SetComp, ast.Div, ast.With, ast.Match, ast.NamedExpr, ast.AnnAssign,
)


def files():
    return sorted(name for name in os.listdir(PACKAGE) if name != "__pycache__")


def text_of(name):
    with open(os.path.join(PACKAGE, name), encoding="utf-8") as file:
        return file.read()


def tree_of(name):
    return ast.parse(text_of(name))


def trees():
    return [(name, tree_of(name)) for name in files()]


def functions_of(tree):
    return [node for node in ast.walk(tree) if isinstance(node, ast.FunctionDef)]


def imports_of(tree):
    return [node for node in tree.body if isinstance(node, ast.ImportFrom)]


def imported_names(tree):
    return [alias.name for node in imports_of(tree) for alias in node.names]


def module_names(tree):
    names = imported_names(tree)
    for node in tree.body:
        if isinstance(node, (ast.FunctionDef, ast.ClassDef)):
            names.append(node.name)
        if isinstance(node, ast.Assign):
            names.append(node.targets[0].id)
    return names


def local_names(function):
    names = [argument.arg for argument in function.args.args]
    return names + [node.id for node in ast.walk(function)
                    if isinstance(node, ast.Name) and isinstance(node.ctx, ast.Store)]


def doc_strings(tree):
    found = []
    for node in ast.walk(tree):
        if isinstance(node, (ast.Module, ast.ClassDef, ast.FunctionDef)) and node.body:
            first = node.body[0]
            if isinstance(first, ast.Expr) and isinstance(first.value, ast.Constant):
                found.append(first.value)
    return found


class FilesTest(unittest.TestCase):
    def test_only_plain_files(self):
        for name in files():
            self.assertRegex(name, r"^(__init__|[a-z][a-z0-9_]*)\.py$")

    def test_sizes_and_signs(self):
        for name in files():
            text = text_of(name)
            rows = text.split("\n")
            self.assertLessEqual(len(rows), 399, name)
            for number, row in enumerate(rows, 1):
                self.assertLessEqual(len(row), 120, f"{name}:{number}")
                self.assertTrue(all(" " <= sign <= "~" for sign in row), f"{name}:{number}")

    def test_functions_are_small_and_told_of(self):
        for name, tree in trees():
            self.assertIsNotNone(ast.get_docstring(tree), name)
            for node in ast.walk(tree):
                if isinstance(node, (ast.FunctionDef, ast.ClassDef)) and node.name != "__init__":
                    self.assertIsNotNone(ast.get_docstring(node), f"{name}:{node.lineno}")
                if isinstance(node, ast.FunctionDef):
                    self.assertLessEqual(node.end_lineno - node.lineno + 1, 40, f"{name}:{node.lineno}")
                    self.assertEqual(node.decorator_list, [])


class ImportsTest(unittest.TestCase):
    def test_from_the_files_that_define(self):
        for name, tree in trees():
            for node in ast.walk(tree):
                self.assertNotIsInstance(node, ast.Import)
                if isinstance(node, ast.ImportFrom):
                    self.assertIn(node, tree.body)
                    self.assertEqual(node.level, 0)
                    defined = LIBRARY.get(node.module)
                    if defined is None:
                        self.assertTrue(node.module.startswith("deducehall."), name)
                        defined = module_names(tree_of(node.module.split(".")[1] + ".py"))
                    for alias in node.names:
                        self.assertIsNone(alias.asname)
                        self.assertIn(alias.name, defined)

    def test_each_import_is_used(self):
        for name, tree in trees():
            used = [node.id for node in ast.walk(tree) if isinstance(node, ast.Name)]
            self.assertEqual([word for word in imported_names(tree) if word not in used], [], name)

    def test_the_library_is_only_called(self):
        words = [word for words in LIBRARY.values() for word in words]
        for name, tree in trees():
            called = [node.func for node in ast.walk(tree) if isinstance(node, ast.Call)]
            for node in ast.walk(tree):
                if isinstance(node, ast.Name) and node.id in words:
                    self.assertIn(node, called, f"{name}:{node.lineno}")

    def test_no_two_import_each_other(self):
        asked = {name[:-3]: [node.module.split(".")[1] for node in imports_of(tree) if node.module not in LIBRARY]
                 for name, tree in trees()}
        done = []
        while len(done) < len(asked):
            ready = [name for name in asked if name not in done and all(other in done for other in asked[name])]
            self.assertNotEqual(ready, [])
            done.extend(ready)


class CodeTest(unittest.TestCase):
    def test_module_level(self):
        for name, tree in trees():
            names = module_names(tree)
            self.assertEqual(len(names), len(set(names)), name)
            for node in tree.body[1:]:
                self.assertIsInstance(node, (ast.ImportFrom, ast.FunctionDef, ast.ClassDef, ast.Assign))
                if isinstance(node, ast.Assign):
                    ast.literal_eval(node.value)

    def test_what_is_not_used(self):
        for name, tree in trees():
            for node in ast.walk(tree):
                if isinstance(node, ast.Try):
                    self.own_errors_alone(node)
                else:
                    self.assertNotIsInstance(node, UNUSED, f"{name}:{getattr(node, 'lineno', 0)}")

    def own_errors_alone(self, node):
        own = module_names(tree_of("errors.py"))
        self.assertEqual(node.finalbody, [])
        for handler in node.handlers:
            self.assertIn(handler.type.id, own)

    def test_builtins(self):
        for name, tree in trees():
            for node in ast.walk(tree):
                if isinstance(node, ast.Name) and hasattr(builtins, node.id):
                    self.assertIn(node.id, BUILTINS, f"{name}:{node.lineno}")

    def test_no_name_is_given_two_meanings(self):
        for name, tree in trees():
            barred = imported_names(tree) + [node.name for node in tree.body if isinstance(node, ast.ClassDef)]
            for function in functions_of(tree):
                for word in local_names(function):
                    self.assertNotIn(word, barred, f"{name}:{function.lineno}")
                    self.assertFalse(hasattr(builtins, word), f"{name}:{function.lineno}: {word}")
            for word in module_names(tree):
                self.assertFalse(hasattr(builtins, word), f"{name}: {word}")

    def test_names(self):
        for name, tree in trees():
            docs = doc_strings(tree)
            for node in ast.walk(tree):
                for word in (getattr(node, "id", None), getattr(node, "attr", None), getattr(node, "arg", None)):
                    if isinstance(word, str):
                        self.assertRegex(word, "^(_|_?[A-Za-z][A-Za-z0-9_]*|__init__)$", name)
                        self.assertNotIn(word, BARRED, f"{name}:{node.lineno}")
                if isinstance(node, ast.Constant) and isinstance(node.value, str):
                    self.assertNotIn("%", node.value, f"{name}:{node.lineno}")
                    self.assertFalse(re.fullmatch("__.*__", node.value), f"{name}:{node.lineno}")
                    if node not in docs:
                        self.assertFalse([word for word in node.value.split() if word in BARRED])


class ClassesTest(unittest.TestCase):
    def classes(self):
        return [node for _, tree in trees() for node in ast.walk(tree) if isinstance(node, ast.ClassDef)]

    def methods_of(self, node):
        return [row.name for row in node.body if isinstance(row, ast.FunctionDef)]

    def fields_of(self, node):
        return [part.attr for part in ast.walk(node)
                if isinstance(part, ast.Attribute) and isinstance(part.ctx, ast.Store)]

    def test_methods_and_fields(self):
        for node in self.classes():
            methods = self.methods_of(node)
            self.assertEqual(len(methods), len(set(methods)), node.name)
            self.assertEqual([word for word in self.fields_of(node) if word in methods], [], node.name)
            for word in methods:
                self.assertFalse(word.startswith("__") and word != "__init__", node.name)

    def test_methods_that_are_called(self):
        own = [word for node in self.classes() for word in self.methods_of(node)]
        for name, tree in trees():
            for node in ast.walk(tree):
                if isinstance(node, ast.Call) and isinstance(node.func, ast.Attribute):
                    self.assertIn(node.func.attr, own + METHODS, f"{name}:{node.lineno}")

    def test_fields_that_are_read_are_set(self):
        own = [word for node in self.classes() for word in self.methods_of(node)]
        fields = [word for node in self.classes() for word in self.fields_of(node)]
        for name, tree in trees():
            for node in ast.walk(tree):
                if isinstance(node, ast.Attribute):
                    self.assertIn(node.attr, own + METHODS + fields, f"{name}:{node.lineno}")


if __name__ == "__main__":
    unittest.main()
