"""The package keeps to the subset of Python that it is written in, as far as a look at its text tells."""

import ast
import builtins
import pathlib
import re
import unittest

FOLDER = pathlib.Path(__file__).resolve().parent.parent / "longyears"
BUILTINS = """len range enumerate zip min max sum abs sorted reversed int str bool list tuple dict set
    isinstance ord repr any all divmod ValueError TypeError KeyError""".split()
WORDS = """type typing typing_extensions enum Enum IntEnum StrEnum Flag IntFlag Generic Protocol ABC ABCMeta
    namedtuple NamedTuple TypedDict TYPE_CHECKING abstractmethod""".split()
DOUBLE_UNDERSCORE = ["__init__", "__len__", "__eq__"]
NO_NODES = (ast.Global, ast.Try, ast.Yield, ast.GeneratorExp, ast.AsyncFunctionDef, ast.Await, ast.Div, ast.Import)


def own_files():
    return [path for path in sorted(FOLDER.rglob("*")) if "__pycache__" not in path.parts]


def bound_names(tree):
    for node in ast.walk(tree):
        if isinstance(node, (ast.FunctionDef, ast.ClassDef)):
            yield node.name
        elif isinstance(node, ast.arg):
            yield node.arg
        elif isinstance(node, ast.Name) and isinstance(node.ctx, ast.Store):
            yield node.id
        elif isinstance(node, ast.alias):
            yield node.asname or node.name


def defined_names(tree):
    for part in tree.body:
        if isinstance(part, (ast.FunctionDef, ast.ClassDef)):
            yield part.name
        elif isinstance(part, ast.Assign):
            yield part.targets[0].id


class Language(unittest.TestCase):
    def each(self):
        for path in own_files():
            text = path.read_text(encoding="ascii")
            with self.subTest(path.name):
                yield path, text, ast.parse(text)

    def test_files_and_characters(self):
        for path in own_files():
            self.assertRegex(path.name, r"^[a-z0-9_]+\.py$")
        for path, text, tree in self.each():
            self.assertEqual(re.findall(r"[^ -~\n]", text), [])
            self.assertLessEqual(text.count("\n"), 399)
            self.assertLessEqual(max(map(len, text.split("\n"))), 120)
            self.assertEqual([word for word in WORDS if re.search(rf"\b{word}\b", text)], [])

    def test_functions_are_small(self):
        for path, text, tree in self.each():
            for node in ast.walk(tree):
                if isinstance(node, ast.FunctionDef):
                    self.assertLessEqual(node.end_lineno - node.lineno + 1, 40)
                    self.assertEqual(node.decorator_list, [])

    def test_imports_name_the_file_that_defines_the_name(self):
        for path, text, tree in self.each():
            for node in ast.walk(tree):
                if isinstance(node, ast.ImportFrom):
                    self.assertIn(node, tree.body)
                    self.assertEqual(node.level, 0)
                    package, module = node.module.split(".")
                    self.assertEqual(package, "longyears")
                    other = ast.parse((FOLDER / f"{module}.py").read_text(encoding="ascii"))
                    self.assertLessEqual({alias.name for alias in node.names}, set(defined_names(other)))

    def test_no_local_name_is_that_of_an_import(self):
        for path, text, tree in self.each():
            imported = {alias.name for part in tree.body if isinstance(part, ast.ImportFrom) for alias in part.names}
            for part in ast.walk(tree):
                if isinstance(part, ast.FunctionDef):
                    self.assertEqual(imported & set(bound_names(part)), set())

    def test_no_two_files_import_from_each_other(self):
        imports = {}
        for path, text, tree in self.each():
            imports[path.stem] = {part.module.split(".")[1] for part in tree.body if isinstance(part, ast.ImportFrom)}
        while imports:
            free = [name for name in imports if not imports[name] & set(imports)]
            self.assertNotEqual(free, [])
            imports = {name: imports[name] for name in imports if name not in free}

    def test_names(self):
        for path, text, tree in self.each():
            for name in bound_names(tree):
                if name in DOUBLE_UNDERSCORE:
                    continue
                self.assertRegex(name, r"^[A-Za-z][A-Za-z0-9_]*$")
                self.assertFalse(hasattr(builtins, name), name)

    def test_only_listed_builtins(self):
        for path, text, tree in self.each():
            known = {*bound_names(tree), *BUILTINS}
            used = {node.id for node in ast.walk(tree) if isinstance(node, ast.Name)}
            self.assertEqual(used - known, set())

    def test_statements_and_expressions(self):
        for path, text, tree in self.each():
            for node in ast.walk(tree):
                self.assertNotIsInstance(node, NO_NODES)
                if isinstance(node, ast.Constant):
                    self.assertNotIsInstance(node.value, (float, complex))
                    self.assertFalse(isinstance(node.value, str) and "%" in node.value)
                if isinstance(node, ast.BinOp) and isinstance(node.op, ast.Pow):
                    self.assertIsInstance(node.right, ast.Constant)
                if isinstance(node, ast.Compare) and isinstance(node.ops[0], (ast.Is, ast.IsNot)):
                    self.assertIn(node.comparators[0].value, (None, True, False))

    def test_one_binding_for_each_name_at_module_level(self):
        for path, text, tree in self.each():
            names = []
            for part in tree.body:
                if isinstance(part, ast.ImportFrom):
                    names += [alias.name for alias in part.names]
                elif isinstance(part, ast.Assign):
                    names += [target.id for target in part.targets]
                elif isinstance(part, (ast.FunctionDef, ast.ClassDef)):
                    names.append(part.name)
                else:
                    self.assertIsInstance(part, ast.Expr)
            self.assertEqual(len(names), len(set(names)))


class Interface(unittest.TestCase):
    listed = {
        "lands": {"is_land": ["thing"], "begin": ["land", "year"], "date": ["land", "day"],
                  "is_long": ["land", "year"], "next_long": ["land", "year"],
                  "long_years": ["land", "first", "last"]},
        "weeks": {"next_year": ["land", "place", "week", "name", "year"],
                  "how_many": ["land", "place", "week", "name", "first", "last"],
                  "lengths": ["land", "place", "week", "name"],
                  "barring": ["land", "place", "week", "name"],
                  "bars": ["land", "place", "week", "name", "thing"]},
        "meetings": {"next_day": ["one", "place_one", "other", "place_other", "day"],
                     "days": ["one", "place_one", "other", "place_other", "first", "last"],
                     "parting": ["one", "place_one", "other", "place_other"],
                     "parts": ["one", "place_one", "other", "place_other", "thing"]},
        "alike": {"alike": ["one", "other"], "first_parting": ["one", "other"], "lands_of": ["seen", "most"]},
    }
    realm = {"__init__": ["self", "land"], "change": ["self", "day", "land"], "back": ["self"],
             "date": ["self", "day"], "days_of": ["self", "year", "place"], "lands": ["self"],
             "__len__": ["self"], "__eq__": ["self", "other"]}

    def arguments_in(self, body):
        return {part.name: [arg.arg for arg in part.args.args] for part in body if isinstance(part, ast.FunctionDef)}

    def test_a_realm_is_defined_in_its_file_with_all_its_methods(self):
        tree = ast.parse((FOLDER / "realms.py").read_text(encoding="ascii"))
        classes = {part.name: self.arguments_in(part.body) for part in tree.body if isinstance(part, ast.ClassDef)}
        self.assertEqual({name: classes["Realm"].get(name) for name in self.realm}, self.realm)

    def test_each_function_is_defined_in_its_file_with_its_arguments(self):
        for module, functions in self.listed.items():
            tree = ast.parse((FOLDER / f"{module}.py").read_text(encoding="ascii"))
            defined = self.arguments_in(tree.body)
            for name, arguments in functions.items():
                self.assertEqual(defined.get(name), arguments, name)


if __name__ == "__main__":
    unittest.main()
