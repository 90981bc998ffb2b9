"""The form of the package's code: the rules of the language that a look at its files can tell."""

import ast
import builtins
import pathlib
import unittest

PACKAGE = pathlib.Path(__file__).resolve().parent.parent / "cutsagain"

ALLOWED = {
    "len", "range", "enumerate", "zip", "min", "max", "sum", "abs", "sorted", "reversed", "int", "str", "bool",
    "list", "tuple", "dict", "set", "isinstance", "ord", "repr", "any", "all", "divmod", "property", "super",
    "Exception", "ValueError", "KeyError", "NotImplemented",
}

METHODS = {"__init__", "__eq__", "__len__"}

# A doctest leaves its last value under the name `_` there.
BUILTINS = {name for name in dir(builtins) if name != "_"}

NODES = (ast.Global, ast.AsyncFunctionDef, ast.Await, ast.Div, ast.GeneratorExp, ast.Set, ast.SetComp, ast.Import)

LIBRARY = {"math": {"gcd"}, "itertools": {"combinations"}}

INTERFACE = {
    "errors.py": {"CutError", "BadSigns", "BadWindow", "BadLengths", "BadText", "BadNumber", "Unlike", "TooMany",
                  "BadWords", "BadSeen", "BadLine"},
    "rules.py": {"Rule", "cuts", "pieces"},
    "growing.py": {"longest", "ring", "is_ring"},
    "meeting.py": {"together", "apart", "meets", "is_for_ever", "for_ever", "differences"},
    "sides.py": {"parting", "alike", "needless", "fewest_words"},
    "counting.py": {"first_cuts", "cut_counts", "mean_first"},
    "told.py": {"fitting"},
    "desks.py": {"Desk"},
    "texts.py": {"write", "read"},
    "shifting.py": {"shifted", "put_in"},
    "resets.py": {"resets", "is_never", "least_reset", "never"},
    "kinds.py": {"akin", "parted_by", "kinds"},
    "shares.py": {"share", "piece_shares"},
    "both.py": {"first_common", "longest_common"},
}


def files():
    return sorted(path for path in PACKAGE.iterdir() if path.name != "__pycache__")


class FormTest(unittest.TestCase):
    def each_node(self):
        for path in files():
            for node in ast.walk(ast.parse(path.read_text(encoding="utf-8"))):
                yield path.name, node

    def test_the_folder_holds_plain_files_only(self):
        self.assertIn("__init__.py", [path.name for path in files()])
        for path in files():
            self.assertRegex(path.name, r"^[a-z0-9_]+\.py$")

    def test_lines(self):
        for path in files():
            text = path.read_text(encoding="utf-8")
            self.assertTrue(all(" " <= sign <= "~" or sign == "\n" for sign in text), path.name)
            self.assertNotIn("_wall", text)
            lines = text.split("\n")
            self.assertLess(len(lines), 400, path.name)
            self.assertLessEqual(max(map(len, lines)), 120, path.name)

    def test_functions_are_short(self):
        for name, node in self.each_node():
            if isinstance(node, ast.FunctionDef):
                self.assertLessEqual(node.end_lineno - node.lineno + 1, 40, (name, node.name))

    def test_imports_name_the_file_that_defines_the_name(self):
        for name, node in self.each_node():
            if isinstance(node, ast.ImportFrom):
                self.assertEqual(node.level, 0, name)
                if node.module in LIBRARY:
                    self.assertLessEqual({alias.name for alias in node.names}, LIBRARY[node.module], name)
                    self.assertEqual({alias.asname for alias in node.names}, {None}, name)
                    continue
                package, module = node.module.split(".")
                self.assertEqual(package, "cutsagain", name)
                tree = ast.parse((PACKAGE / f"{module}.py").read_text(encoding="utf-8"))
                self.assertLessEqual({alias.name for alias in node.names}, self.defined(tree), name)

    def defined(self, tree):
        names = {node.name for node in tree.body if isinstance(node, (ast.FunctionDef, ast.ClassDef))}
        return names | {node.targets[0].id for node in tree.body if isinstance(node, ast.Assign)}

    def test_the_interface_is_defined_where_it_is_listed(self):
        for name, names in INTERFACE.items():
            tree = ast.parse((PACKAGE / name).read_text(encoding="utf-8"))
            self.assertLessEqual(names, self.defined(tree))

    def test_no_statement_or_value_that_the_language_bars(self):
        for name, node in self.each_node():
            self.assertNotIsInstance(node, NODES, name)
            if isinstance(node, ast.Constant):
                self.assertNotIsInstance(node.value, (float, complex), name)

    def test_builtins(self):
        for name, node in self.each_node():
            if isinstance(node, ast.Name) and node.id in BUILTINS:
                self.assertIn(node.id, ALLOWED, name)
                self.assertIsInstance(node.ctx, ast.Load, (name, node.id))
            if isinstance(node, ast.arg):
                self.assertNotIn(node.arg, BUILTINS, name)

    def test_double_underscore_methods(self):
        for name, node in self.each_node():
            if isinstance(node, ast.FunctionDef) and node.name.startswith("__"):
                self.assertIn(node.name, METHODS, name)


if __name__ == "__main__":
    unittest.main()
