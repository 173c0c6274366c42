"""Some rules for the files of the package that a program can check: a part of them, not all."""

import ast
import builtins
import pathlib
import unittest

FOLDER = pathlib.Path(__file__).resolve().parent.parent / "evenboxes"
FILES = sorted(FOLDER.rglob("*.py"))

LIBRARY = {
    "heapq": {"heappush", "heappop", "heapify", "heapreplace", "heappushpop"},
    "math": {"gcd", "lcm", "isqrt", "comb", "perm", "factorial"},
    "itertools": {"product", "combinations", "permutations"},
}
BUILTINS = set(
    "len range enumerate zip min max sum abs sorted reversed int str bool bytes list tuple dict set isinstance ord repr "
    "any all divmod Exception ValueError TypeError KeyError IndexError LookupError ZeroDivisionError ArithmeticError "
    "OverflowError RuntimeError NotImplementedError AttributeError StopIteration NotImplemented iter next map super "
    "property staticmethod classmethod object".split()
)
# Doctests keep what was shown last as `_` there.
OF_PYTHON = set(vars(builtins)) - {"_"}
BARRED_NODES = (
    ast.Global, ast.AsyncFunctionDef, ast.AsyncFor, ast.AsyncWith, ast.Await, ast.Import, ast.TryStar, ast.Div,
)
DECORATORS = {"property", "staticmethod", "classmethod", "setter"}
BARRED_NAMES = set(
    "register mro elements open input law version_info with_traceback add_note attrgetter breakpoint builtins compile "
    "copyright credits delattr dir eval exec exit gc getattr globals hasattr help id importlib license locals "
    "methodcaller os quit setattr vars sys enum typing dataclass".split()
)
METHODS = set(
    "append clear copy count endswith extend find get index insert isalnum isalpha isdigit islower isspace isupper "
    "items join keys ljust lower lstrip partition pop remove replace reverse rfind rjust rpartition rsplit rstrip "
    "setdefault split splitlines startswith strip update upper values zfill bit_length add discard".split()
)
OPERATORS = {
    "__add__", "__and__", "__contains__", "__bool__", "__eq__", "__repr__", "__str__", "__len__", "__getitem__",
    "__iter__",
}
# What the rows of `__exit__` may be made of.
PLAIN_ROWS = (
    ast.FunctionDef, ast.arguments, ast.arg, ast.Assign, ast.If, ast.Compare, ast.Is, ast.IsNot, ast.Constant, ast.Name,
    ast.Attribute, ast.Load, ast.Store, ast.Expr, ast.Pass, ast.Return,
)


def tree_of(path):
    return ast.parse(path.read_text(encoding="utf-8"))


class LanguageTest(unittest.TestCase):
    def nodes(self, wanted):
        """Pairs of the place and the node, for all nodes of these classes in the package."""
        return [
            (f"{path.name}:{getattr(node, 'lineno', 0)}", node)
            for path in FILES
            for node in ast.walk(tree_of(path))
            if isinstance(node, wanted)
        ]

    def test_only_python_files_in_the_package(self):
        others = [
            path for path in FOLDER.rglob("*")
            if path.is_file() and path.suffix != ".py" and path.parent.name != "__pycache__"
        ]
        self.assertEqual(others, [])
        self.assertIn(FOLDER / "__init__.py", FILES)

    def test_lines_and_characters(self):
        for path in FILES:
            text = path.read_text(encoding="utf-8")
            lines = text.split("\n")
            with self.subTest(file=path.name):
                self.assertLessEqual(len(lines), 399)
                self.assertLessEqual(max(len(line) for line in lines), 120)
                self.assertEqual([sign for sign in text if not (" " <= sign <= "~" or sign == "\n")], [])

    def test_functions_are_short(self):
        for place, node in self.nodes(ast.FunctionDef):
            self.assertLessEqual(node.end_lineno - node.lineno + 1, 40, place)

    def test_imports(self):
        for place, node in self.nodes(ast.ImportFrom):
            names = {alias.name for alias in node.names}
            if node.module in LIBRARY:
                self.assertLessEqual(names, LIBRARY[node.module], place)
                self.assertEqual({alias.asname for alias in node.names}, {None}, place)
            else:
                self.assertEqual(node.level, 0, place)
                self.assertTrue(node.module.startswith("evenboxes.") or node.module == "__future__", place)
                self.assertNotIn("*", names, place)

    def test_no_barred_statements(self):
        self.assertEqual([place for place, _ in self.nodes(BARRED_NODES)], [])

    def test_no_floats_and_no_percent_in_strings(self):
        for place, node in self.nodes(ast.Constant):
            self.assertNotIsInstance(node.value, (float, complex), place)
            if isinstance(node.value, str):
                self.assertNotIn("%", node.value, place)

    def test_decorators(self):
        for place, node in self.nodes((ast.FunctionDef, ast.ClassDef)):
            for decorator in node.decorator_list:
                name = decorator.attr if isinstance(decorator, ast.Attribute) else decorator.id
                self.assertIn(name, DECORATORS, place)

    def test_builtins(self):
        for place, node in self.nodes(ast.Name):
            if node.id in OF_PYTHON:
                self.assertIn(node.id, BUILTINS, place)
                self.assertIsInstance(node.ctx, ast.Load, place)

    def test_parameters_functions_and_classes_have_no_names_of_builtins(self):
        for place, node in self.nodes((ast.arg, ast.FunctionDef, ast.ClassDef)):
            name = node.arg if isinstance(node, ast.arg) else node.name
            self.assertNotIn(name, OF_PYTHON, place)

    def test_barred_names(self):
        for place, node in self.nodes((ast.Name, ast.arg, ast.FunctionDef, ast.ClassDef, ast.Attribute, ast.alias)):
            for field in ("id", "arg", "name", "attr"):
                self.assertNotIn(getattr(node, field, None), BARRED_NAMES, place)

    def test_methods_of_builtin_values(self):
        own = {node.name for _, node in self.nodes(ast.FunctionDef)}
        for place, node in self.nodes(ast.Call):
            if isinstance(node.func, ast.Attribute):
                self.assertIn(node.func.attr, METHODS | own, place)

    def test_what_operators_and_properties_run_changes_nothing(self):
        functions = {}
        for _, node in self.nodes((ast.FunctionDef, ast.ClassDef)):
            functions.setdefault(node.name, []).append(node)
        begun = [
            node for _, node in self.nodes(ast.FunctionDef)
            if node.name in OPERATORS
            or any(isinstance(word, ast.Name) and word.id == "property" for word in node.decorator_list)
        ]
        seen = []
        while begun:
            node = begun.pop()
            if node in seen:
                continue
            seen.append(node)
            self.check_that_nothing_is_changed(node)
            for part in ast.walk(node):
                if isinstance(part, ast.Call):
                    name = part.func.id if isinstance(part.func, ast.Name) else part.func.attr
                    begun.extend(functions.get(name, []))
        self.assertGreater(len(seen), 15)

    def check_that_nothing_is_changed(self, function):
        if isinstance(function, ast.ClassDef):
            return
        created = {
            target.id for part in ast.walk(function)
            if isinstance(part, ast.Assign) and isinstance(part.value, (ast.List, ast.ListComp))
            for target in part.targets if isinstance(target, ast.Name)
        }
        for part in ast.walk(function):
            place = f"{function.name}:{getattr(part, 'lineno', 0)}"
            self.assertNotIsInstance(part, (ast.AugAssign, ast.Delete), place)
            if isinstance(part, ast.Subscript) and not isinstance(part.ctx, ast.Load):
                self.assertIn(part.value.id, created, place)
            if isinstance(part, ast.Attribute):
                self.assertIsInstance(part.ctx, ast.Load, place)
                if part.attr in ("append", "clear", "extend", "insert", "pop", "remove", "reverse", "update", "add"):
                    self.assertIn(part.value.id, created, place)

    def test_nothing_but_plain_rows_at_the_end_of_a_trial(self):
        found = [(place, node) for place, node in self.nodes(ast.FunctionDef) if node.name == "__exit__"]
        self.assertEqual(len(found), 1)
        for place, function in found:
            self.assertEqual([word.arg for word in function.args.args], ["self", "kind", "value", "trace"])
            for part in ast.walk(function):
                self.assertIsInstance(part, PLAIN_ROWS, place)
                if isinstance(part, ast.Assign):
                    self.assertEqual([type(target) for target in part.targets], [ast.Attribute], place)
                if isinstance(part, ast.Name):
                    self.assertIn(part.id, ("self", "kind"), place)

    def test_classes_with_items_are_not_iterated_over(self):
        for place, node in self.nodes(ast.ClassDef):
            methods = {part.name: part for part in node.body if isinstance(part, ast.FunctionDef)}
            if "__getitem__" in methods:
                self.assertIsInstance(methods["__iter__"].body[0], ast.Raise, place)
        names = [node.attr for _, node in self.nodes(ast.Attribute)] + [
            node.name for _, node in self.nodes(ast.FunctionDef)
        ]
        self.assertNotIn("keys", names)

    def test_is_stands_beside_none_and_self_alone(self):
        for place, node in self.nodes(ast.Compare):
            for sign, side in zip(node.ops, node.comparators):
                if isinstance(sign, (ast.Is, ast.IsNot)):
                    self_alone = isinstance(node.left, ast.Name) and node.left.id == "self"
                    self.assertTrue(self_alone or isinstance(side, ast.Constant) and side.value is None, place)

    def test_no_method_is_read_off_a_class(self):
        classes = {node.name for _, node in self.nodes(ast.ClassDef)}
        for place, node in self.nodes(ast.Attribute):
            if isinstance(node.value, ast.Name):
                self.assertNotIn(node.value.id, classes, place)

    def test_no_attribute_that_is_stored_has_the_name_of_a_method(self):
        methods = {node.name for _, cls in self.nodes(ast.ClassDef) for node in cls.body if hasattr(node, "name")}
        for place, node in self.nodes(ast.Attribute):
            if isinstance(node.ctx, ast.Store):
                self.assertNotIn(node.attr, methods, place)

    def test_local_names_are_not_those_of_imports_and_classes(self):
        for path in FILES:
            tree = tree_of(path)
            taken = {node.name for node in ast.walk(tree) if isinstance(node, ast.ClassDef)} | {
                alias.name for node in ast.walk(tree) if isinstance(node, ast.ImportFrom) for alias in node.names
            }
            for node in ast.walk(tree):
                name = node.arg if isinstance(node, ast.arg) else getattr(node, "id", None)
                if isinstance(node, ast.arg) or isinstance(getattr(node, "ctx", None), ast.Store):
                    self.assertNotIn(name, taken, f"{path.name}:{node.lineno}")

    def test_no_files_import_from_each_other(self):
        imports = {
            path.stem: [
                node.module.split(".")[1] for node in ast.walk(tree_of(path))
                if isinstance(node, ast.ImportFrom) and node.module.startswith("evenboxes.")
            ]
            for path in FILES
        }
        while imports:
            free = [name for name, needed in imports.items() if not set(needed) & set(imports)]
            self.assertNotEqual(free, [], imports)
            imports = {name: needed for name, needed in imports.items() if name not in free}

    def test_all_that_is_imported_is_used(self):
        for path in FILES:
            tree = tree_of(path)
            read = {node.id for node in ast.walk(tree) if isinstance(node, ast.Name)}
            for node in ast.walk(tree):
                if isinstance(node, ast.ImportFrom):
                    self.assertLessEqual({alias.name for alias in node.names}, read, path.name)

    def test_any_and_all_and_their_kin_take_lists(self):
        for place, node in self.nodes(ast.Call):
            if isinstance(node.func, ast.Name) and node.func.id in ("any", "all", "min", "max", "sum", "sorted"):
                self.assertEqual([part for part in node.args if isinstance(part, ast.GeneratorExp)], [], place)


if __name__ == "__main__":
    unittest.main()
