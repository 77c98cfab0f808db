"""The package is one folder of plain files within the subset of Python that it is written in."""

import ast
import builtins
import pathlib
import unittest

FOLDER = pathlib.Path(__file__).resolve().parent.parent / "leafwaits"
FILES = sorted(FOLDER.glob("*.py"))
INTERFACE = {
    "rules": "Rule told named shifted mirrored put_in parts waited left_out",
    "rows": "rows matters columns of_rows of_columns never_behind alike parting check_parting reasons is_reasons "
            "telling alone slack lean",
    "books": "Book now_ring hours_behind flat then after beside renamed turned_about alike_books parting_after "
             "check_parting_after alike_from",
    "rounds": "run hours_after first_round meeting",
    "latebook": "late_rule is_late_rule same_lates parting_lates late_book late_after over_told whole_names harmless",
    "late": "late_at most_late least_late late_hours late_stair reached held_late stopping can_ever is_can_ever",
    "stairs": "Stair first_of last_of rank_of put_behind first_unlike widest_stair",
    "runs": "carried spare felt leeway holders hasteners pacers delayers earlier_hours later_hours check_earlier "
            "check_later deciding open_names",
    "windows": "keeps first_broken ends begins boxes some_hours why_none room common_room tightest same_windows "
               "widening",
    "seen": "Sights fits clash check_clash latest_rows earliest_columns latest_at earliest_at rule_fits moments "
            "rule_with after_rounds must_see lots_seen lots_stop same_sights unlike_rule needless telling_hours "
            "still_fit lots_wrong watched last_latest last_moments",
    "differences": "spread hours_of why_at_most is_why_at_most",
    "leads": "lead lead_hours front front_hours rear rear_hours sure_order",
    "live": "Hall replayed same_runs alike_halls parting_changes check_parting_changes",
    "scripts": "play script_text read_script said_text refused same_end parting_begin check_parting_begin trimmed",
    "texts": "rule_text book_text hours_text run_text rows_text windows_text stair_text sights_text read_rule read_book "
             "read_hours read_run read_rows read_windows read_stair read_sights",
}
METHODS = {
    "Rule": "__init__ term __eq__",
    "Book": "__init__ names rule changed with_scribe without __len__ __eq__",
    "Stair": "__init__ begin corners value end undone shifted __eq__",
    "Sights": "__init__ names most rows __len__ __eq__ with_row without",
    "Hall": "__init__ book hours rounds __len__ round late put join leave log undo redo trial attempt copy reach spare",
}
PROPERTIES = {"Stair": ["begin", "corners"]}
BUILTINS = """len range enumerate zip min max sum abs sorted reversed int str bool list tuple dict set isinstance ord
repr any all divmod""".split()
LIBRARY = {"itertools": ["combinations"]}
TAKE_LISTS = ["any", "all", "min", "max", "sum", "sorted"]


def trees():
    return [(path, ast.parse(path.read_text())) for path in FILES]


class LanguageTest(unittest.TestCase):
    def test_sizes_and_signs(self):
        for path in FILES:
            text = path.read_text()
            self.assertLessEqual(len(text.split("\n")), 399, path)
            self.assertTrue(all(sign == "\n" or " " <= sign <= "~" for sign in text), path)
            self.assertLessEqual(max(len(line) for line in text.split("\n")), 120, path)
            for node in ast.walk(ast.parse(text)):
                if isinstance(node, ast.FunctionDef):
                    self.assertLessEqual(node.end_lineno - node.lineno + 1, 40, (path, node.name))

    def test_decorators_stand_over_properties_only(self):
        for _, tree in trees():
            for node in ast.walk(tree):
                if isinstance(node, ast.FunctionDef):
                    self.assertIn([ast.unparse(decorator) for decorator in node.decorator_list], [[], ["property"]])
                if isinstance(node, ast.ClassDef):
                    self.assertEqual(node.decorator_list, [])
                    properties = [item.name for item in node.body if getattr(item, "decorator_list", [])]
                    self.assertEqual(properties, PROPERTIES.get(node.name, []))

    def test_folder_holds_nothing_else(self):
        others = [path.name for path in FOLDER.iterdir() if path.suffix != ".py" and path.name != "__pycache__"]
        self.assertEqual(others, [])

    def test_imports(self):
        for path, tree in trees():
            for node in ast.walk(tree):
                self.assertNotIsInstance(node, ast.Import)
                if isinstance(node, ast.ImportFrom):
                    names = [alias.name for alias in node.names]
                    if node.module in LIBRARY:
                        self.assertTrue(all(name in LIBRARY[node.module] for name in names), path)
                        continue
                    package, module = node.module.split(".")
                    self.assertEqual(package, "leafwaits")
                    source = ast.parse((FOLDER / (module + ".py")).read_text())
                    defined = [item.name for item in source.body if isinstance(item, (ast.FunctionDef, ast.ClassDef))]
                    defined += [item.targets[0].id for item in source.body if isinstance(item, ast.Assign)]
                    self.assertTrue(all(name in defined for name in names), (path, node.module, names))

    def test_builtins(self):
        for path, tree in trees():
            known = [node.name for node in ast.walk(tree) if isinstance(node, (ast.FunctionDef, ast.ClassDef))]
            known += [alias.name for node in ast.walk(tree) if isinstance(node, ast.ImportFrom) for alias in node.names]
            known += [node.arg for node in ast.walk(tree) if isinstance(node, ast.arg)]
            for node in ast.walk(tree):
                if isinstance(node, ast.Call) and isinstance(node.func, ast.Name):
                    self.assertIn(node.func.id, known + BUILTINS, path)
                    if node.func.id in TAKE_LISTS:
                        self.assertFalse(any(isinstance(argument, ast.GeneratorExp) for argument in node.args), path)

    def test_no_local_name_is_that_of_an_import_a_class_or_a_builtin(self):
        for path, tree in trees():
            taken = [alias.name for node in ast.walk(tree) if isinstance(node, ast.ImportFrom) for alias in node.names]
            taken += [node.name for node in ast.walk(tree) if isinstance(node, ast.ClassDef)] + dir(builtins)
            bound = [node.arg for node in ast.walk(tree) if isinstance(node, ast.arg)]
            bound += [node.id for node in ast.walk(tree) if isinstance(node, ast.Name) and isinstance(node.ctx, ast.Store)]
            self.assertEqual([name for name in bound if name in taken], [], path)

    def test_behind_a_star_in_a_call_stands_a_name(self):
        for path, tree in trees():
            for node in ast.walk(tree):
                if isinstance(node, ast.Call):
                    starred = [argument.value for argument in node.args if isinstance(argument, ast.Starred)]
                    self.assertTrue(all(isinstance(value, ast.Name) for value in starred), path)
                    self.assertTrue(all(keyword.arg for keyword in node.keywords), path)

    def test_combinations_go_over_plain_names(self):
        for path, tree in trees():
            for node in ast.walk(tree):
                if isinstance(node, ast.Call) and getattr(node.func, "id", "") == "combinations":
                    self.assertTrue(all(isinstance(argument, ast.Name) for argument in node.args), path)

    def test_no_other_forms(self):
        barred = (ast.Global, ast.Nonlocal, ast.AsyncFunctionDef, ast.Await, ast.GeneratorExp, ast.Yield, ast.Div, ast.Pow,
                  ast.Set, ast.AnnAssign)
        for path, tree in trees():
            for node in ast.walk(tree):
                self.assertNotIsInstance(node, barred, path)
                if isinstance(node, ast.Constant):
                    self.assertNotIsInstance(node.value, float)
                    self.assertFalse(isinstance(node.value, str) and "%" in node.value, path)
                if isinstance(node, ast.Compare) and any(isinstance(sign, (ast.Is, ast.IsNot)) for sign in node.ops):
                    self.assertIsNone(node.comparators[0].value)

    def test_own_errors_alone_are_caught_by_name(self):
        own = [node.name for node in ast.parse((FOLDER / "errors.py").read_text()).body if isinstance(node, ast.ClassDef)]
        for path, tree in trees():
            for node in ast.walk(tree):
                if isinstance(node, ast.Try):
                    self.assertTrue(node.handlers and not node.orelse and not node.finalbody, path)
                    self.assertTrue(all(handler.type.id in own and not handler.name for handler in node.handlers), path)

    def test_within_braces_stands_no_string(self):
        for path, tree in trees():
            for node in ast.walk(tree):
                if isinstance(node, ast.FormattedValue):
                    self.assertTrue(node.conversion == -1 and node.format_spec is None, path)
                    strings = [inner for inner in ast.walk(node.value) if isinstance(inner, (ast.Constant, ast.JoinedStr))]
                    self.assertFalse(any(isinstance(getattr(inner, "value", ""), str) for inner in strings), path)

    def test_no_two_files_import_from_each_other(self):
        imported = {}
        for path, tree in trees():
            imported[path.stem] = {node.module.split(".")[1] for node in ast.walk(tree)
                                   if isinstance(node, ast.ImportFrom) and node.module not in LIBRARY}
        while imported:
            ready = [name for name, others in imported.items() if not others & set(imported)]
            self.assertTrue(ready, imported)
            imported = {name: others for name, others in imported.items() if name not in ready}

    def test_each_import_is_used(self):
        for path, tree in trees():
            names = [alias.name for node in ast.walk(tree) if isinstance(node, ast.ImportFrom) for alias in node.names]
            used = [node.id for node in ast.walk(tree) if isinstance(node, ast.Name)]
            self.assertEqual([name for name in names if name not in used], [], path)

    def test_sets_stand_in_len_and_sorted_only(self):
        for path, tree in trees():
            asked = [node for node in ast.walk(tree) if isinstance(node, ast.Call) and isinstance(node.func, ast.Name)]
            sets = [node for node in asked if node.func.id == "set"]
            within = [argument for node in asked if node.func.id in ("len", "sorted") for argument in node.args]
            self.assertTrue(all(node in within for node in sets), path)
            self.assertFalse(any(isinstance(node, ast.SetComp) for node in ast.walk(tree)), path)

    def test_each_name_of_the_interface_is_defined_in_its_file(self):
        for module, names in INTERFACE.items():
            tree = ast.parse((FOLDER / (module + ".py")).read_text())
            defined = {node.name: node for node in tree.body if isinstance(node, (ast.FunctionDef, ast.ClassDef))}
            for name in names.split():
                self.assertIn(name, defined)
                if name in METHODS:
                    methods = [node.name for node in defined[name].body if isinstance(node, ast.FunctionDef)]
                    self.assertTrue(all(method in methods for method in METHODS[name].split()), name)


if __name__ == "__main__":
    unittest.main()
