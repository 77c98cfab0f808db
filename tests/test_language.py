"""The package is one folder of plain files within the subset of Python that it is written in."""

import ast
import pathlib
import unittest

FOLDER = pathlib.Path(__file__).resolve().parent.parent / "leafwaits"
FILES = sorted(FOLDER.glob("*.py"))
INTERFACE = {
    "rules": "Rule told named shifted mirrored put_in parts waited left_out",
    "rows": "rows matters columns of_rows of_columns never_behind alike parting check_parting reasons is_reasons "
            "telling alone slack lean",
    "books": "Book now_ring hours_behind flat then after beside renamed turned_about alike_books parting_after "
             "check_parting_after alike_from",
}
METHODS = {"Rule": "__init__ term __eq__", "Book": "__init__ names rule changed with_scribe without __len__ __eq__"}
BUILTINS = """len range enumerate zip min max sum abs sorted reversed int str bool list tuple dict set isinstance ord
repr any all divmod""".split()
LIBRARY = {"itertools": ["combinations"]}
TAKE_LISTS = ["any", "all", "min", "max", "sum", "sorted"]


def trees():
    return [(path, ast.parse(path.read_text())) for path in FILES]


class LanguageTest(unittest.TestCase):
    def test_sizes_and_signs(self):
        for path in FILES:
            text = path.read_text()
            self.assertLessEqual(len(text.split("\n")), 399, path)
            self.assertTrue(all(sign == "\n" or " " <= sign <= "~" for sign in text), path)
            self.assertLessEqual(max(len(line) for line in text.split("\n")), 120, path)
            for node in ast.walk(ast.parse(text)):
                if isinstance(node, ast.FunctionDef):
                    self.assertLessEqual(node.end_lineno - node.lineno + 1, 40, (path, node.name))
                    self.assertEqual(node.decorator_list, [])

    def test_folder_holds_nothing_else(self):
        others = [path.name for path in FOLDER.iterdir() if path.suffix != ".py" and path.name != "__pycache__"]
        self.assertEqual(others, [])

    def test_imports(self):
        for path, tree in trees():
            for node in ast.walk(tree):
                self.assertNotIsInstance(node, ast.Import)
                if isinstance(node, ast.ImportFrom):
                    names = [alias.name for alias in node.names]
                    if node.module in LIBRARY:
                        self.assertTrue(all(name in LIBRARY[node.module] for name in names), path)
                        continue
                    package, module = node.module.split(".")
                    self.assertEqual(package, "leafwaits")
                    source = ast.parse((FOLDER / (module + ".py")).read_text())
                    defined = [item.name for item in source.body if isinstance(item, (ast.FunctionDef, ast.ClassDef))]
                    self.assertTrue(all(name in defined for name in names), (path, node.module, names))

    def test_builtins(self):
        for path, tree in trees():
            known = [node.name for node in ast.walk(tree) if isinstance(node, (ast.FunctionDef, ast.ClassDef))]
            known += [alias.name for node in ast.walk(tree) if isinstance(node, ast.ImportFrom) for alias in node.names]
            known += [node.arg for node in ast.walk(tree) if isinstance(node, ast.arg)]
            for node in ast.walk(tree):
                if isinstance(node, ast.Call) and isinstance(node.func, ast.Name):
                    self.assertIn(node.func.id, known + BUILTINS, path)
                    if node.func.id in TAKE_LISTS:
                        self.assertFalse(any(isinstance(argument, ast.GeneratorExp) for argument in node.args), path)

    def test_no_other_forms(self):
        barred = (ast.Global, ast.Nonlocal, ast.AsyncFunctionDef, ast.Await, ast.Try, ast.GeneratorExp, ast.Yield,
                  ast.Div, ast.Pow, ast.JoinedStr, ast.Set, ast.AnnAssign)
        for path, tree in trees():
            for node in ast.walk(tree):
                self.assertNotIsInstance(node, barred, path)
                if isinstance(node, ast.Constant):
                    self.assertNotIsInstance(node.value, float)
                    self.assertFalse(isinstance(node.value, str) and "%" in node.value, path)
                if isinstance(node, ast.Compare) and any(isinstance(sign, (ast.Is, ast.IsNot)) for sign in node.ops):
                    self.assertIsNone(node.comparators[0].value)

    def test_sets_stand_in_len_and_sorted_only(self):
        for path, tree in trees():
            asked = [node for node in ast.walk(tree) if isinstance(node, ast.Call) and isinstance(node.func, ast.Name)]
            sets = [node for node in asked if node.func.id == "set"]
            within = [argument for node in asked if node.func.id in ("len", "sorted") for argument in node.args]
            self.assertTrue(all(node in within for node in sets), path)
            self.assertFalse(any(isinstance(node, ast.SetComp) for node in ast.walk(tree)), path)

    def test_each_name_of_the_interface_is_defined_in_its_file(self):
        for module, names in INTERFACE.items():
            tree = ast.parse((FOLDER / (module + ".py")).read_text())
            defined = {node.name: node for node in tree.body if isinstance(node, (ast.FunctionDef, ast.ClassDef))}
            for name in names.split():
                self.assertIn(name, defined)
                if name in METHODS:
                    methods = [node.name for node in defined[name].body if isinstance(node, ast.FunctionDef)]
                    self.assertTrue(all(method in methods for method in METHODS[name].split()), name)


if __name__ == "__main__":
    unittest.main()
