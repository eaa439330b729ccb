"""The rules of LANGUAGE.md, as far as this program comes near them."""

import ast
import builtins
import pathlib
import unittest

FOLDER = pathlib.Path(__file__).parent.parent / "lethe"
FILES = sorted(FOLDER.glob("*.py"))

NODES = """Module Import ImportFrom alias FunctionDef ClassDef arguments arg Return Assign AugAssign For While If
Try ExceptHandler Raise Expr Pass Break Continue Delete BoolOp And Or BinOp Add Sub Mult FloorDiv Mod Pow BitAnd RShift
UnaryOp USub Not IfExp Dict ListComp SetComp DictComp comprehension Compare Eq NotEq Lt LtE Gt GtE Is IsNot In NotIn
Call FormattedValue JoinedStr Constant Attribute Subscript Slice Name List Tuple Set Load Store Del""".split()

BUILTINS = """len range enumerate zip min max sum abs sorted reversed int str bool list tuple dict set isinstance ord
repr any all divmod ValueError""".split()

METHODS = """append clear copy count endswith extend find get index insert isalnum isalpha isdigit islower isspace
isupper items join keys ljust lower lstrip partition pop remove replace reverse rfind rjust rpartition rsplit rstrip
setdefault split splitlines startswith strip update upper values zfill bit_length isascii""".split()

BARRED = """register mro elements open input law version_info with_traceback add_note attrgetter breakpoint compile
copyright credits delattr dir eval exec exit gc globals help id importlib license locals methodcaller os quit super
type vars sys""".split()


def trees():
    return [(path, ast.parse(path.read_text())) for path in FILES]


def functions_of(tree):
    return [node for node in ast.walk(tree) if isinstance(node, ast.FunctionDef)]


def bound_names(function):
    names = {argument.arg for argument in function.args.args}
    return names | {node.id for node in ast.walk(function)
                    if isinstance(node, ast.Name) and isinstance(node.ctx, ast.Store)}


def tables_of(tree):
    """Return the names of the dicts and lists at module level."""
    return [node.targets[0].id for node in tree.body if isinstance(node, ast.Assign)
            and isinstance(node.value, (ast.Dict, ast.List))]


def table_entries(tree, function):
    """Return the local names that are given an entry of a table at module level."""
    return {node.targets[0].id for node in ast.walk(function) if isinstance(node, ast.Assign)
            and isinstance(node.value, ast.Subscript) and isinstance(node.value.value, ast.Name)
            and node.value.value.id in tables_of(tree) and isinstance(node.targets[0], ast.Name)}


def is_literal_range(node):
    return (isinstance(node, ast.Call) and getattr(node.func, "id", "") == "range"
            and all(isinstance(argument, ast.Constant) for argument in node.args))


class TestFiles(unittest.TestCase):
    def test_the_folder_has_nothing_else(self):
        found = sorted(path for path in FOLDER.iterdir() if path.name != "__pycache__")
        self.assertEqual(found, FILES)
        self.assertIn(FOLDER / "__init__.py", FILES)

    def test_characters_and_sizes(self):
        for path in FILES:
            text = path.read_text()
            self.assertTrue(all(c == "\n" or " " <= c <= "~" for c in text), path)
            lines = text.splitlines()
            self.assertLessEqual(len(lines), 399, path)
            self.assertLessEqual(max(len(line) for line in lines), 120, path)
            for function in functions_of(ast.parse(text)):
                self.assertLessEqual(function.end_lineno - function.lineno + 1, 40, (path, function.name))

    def test_only_plain_parts_of_the_language(self):
        for path, tree in trees():
            for node in ast.walk(tree):
                self.assertIn(type(node).__name__, NODES, (path, getattr(node, "lineno", None)))
                if isinstance(node, ast.FunctionDef):
                    self.assertEqual(node.decorator_list, [])
                    self.assertIsNone(node.args.vararg or node.args.kwarg or node.returns)
                    self.assertEqual(node.args.kwonlyargs + node.args.defaults, [])
                if isinstance(node, ast.Call):
                    self.assertEqual(node.keywords, [], (path, node.lineno))

    def test_exponents(self):
        for path, tree in trees():
            counted = {node.target.id for node in ast.walk(tree) if isinstance(node, ast.comprehension)
                       and isinstance(node.target, ast.Name) and is_literal_range(node.iter)}
            for node in ast.walk(tree):
                if isinstance(node, ast.BinOp) and isinstance(node.op, ast.Pow):
                    known = isinstance(node.right, ast.Constant) or node.right.id in counted
                    self.assertTrue(known, (path, node.lineno))

    def test_no_percent_sign_in_a_string(self):
        for path, tree in trees():
            for node in ast.walk(tree):
                if isinstance(node, ast.Constant) and isinstance(node.value, str):
                    self.assertNotIn(chr(37), node.value, path)


class TestNames(unittest.TestCase):
    def defined(self, tree):
        names = []
        for node in tree.body:
            if isinstance(node, (ast.FunctionDef, ast.ClassDef)):
                names.append(node.name)
            elif isinstance(node, ast.Assign):
                names += [target.id for target in node.targets]
        return names

    def imported(self, tree):
        return [(node.module, alias.name) for node in tree.body if isinstance(node, ast.ImportFrom)
                for alias in node.names]

    def test_imports_name_the_defining_file(self):
        defined = {"lethe." + path.stem: self.defined(tree) for path, tree in trees()}
        for path, tree in trees():
            for node in ast.walk(tree):
                if isinstance(node, (ast.Import, ast.ImportFrom)):
                    self.assertIsInstance(node, ast.ImportFrom, path)
                    self.assertIn(node, tree.body, path)
            for module, name in self.imported(tree):
                self.assertIn(name, defined[module], path)

    def test_no_circle_of_imports(self):
        needs = {"lethe." + path.stem: {module for module, _ in self.imported(tree)} for path, tree in trees()}
        while needs:
            free = [file for file in needs if not needs[file] & set(needs)]
            self.assertNotEqual(free, [], needs)
            for file in free:
                del needs[file]

    def test_one_binding_for_each_name(self):
        for path, tree in trees():
            names = self.defined(tree) + [name for _, name in self.imported(tree)]
            self.assertEqual(len(names), len(set(names)), path)
            for function in functions_of(tree):
                clash = bound_names(function) & set(names)
                self.assertEqual(clash, set(), (path, function.name))

    def test_no_name_of_a_builtin(self):
        for path, tree in trees():
            names = set(self.defined(tree)) | {name for _, name in self.imported(tree)}
            for function in functions_of(tree):
                names |= bound_names(function)
            self.assertEqual(names & (set(dir(builtins)) | set(BARRED)), set(), path)

    def test_builtins_and_methods(self):
        own = {function.name for _, tree in trees() for function in functions_of(tree)}
        for path, tree in trees():
            known = set(self.defined(tree)) | {name for _, name in self.imported(tree)} | set(BUILTINS)
            for function in functions_of(tree):
                known |= table_entries(tree, function)
            for node in ast.walk(tree):
                if isinstance(node, ast.Call) and isinstance(node.func, ast.Attribute):
                    self.assertTrue(node.func.attr in METHODS or node.func.attr in own, (path, node.lineno))
                elif isinstance(node, ast.Call):
                    self.assertIn(node.func.id, known, (path, node.lineno))

    def test_tables_at_module_level(self):
        for path, tree in trees():
            for node in tree.body:
                if isinstance(node, ast.Assign) and isinstance(node.value, (ast.Dict, ast.List)):
                    inside = list(ast.walk(node.value))[1:]
                    self.assertFalse([part for part in inside if isinstance(part, (ast.Dict, ast.List))], path)
            tables = tables_of(tree)
            looked_at = set()
            for node in ast.walk(tree):
                if isinstance(node, ast.Subscript):
                    looked_at.add(node.value)
                elif isinstance(node, ast.Compare):
                    looked_at |= set(node.comparators)
            for node in ast.walk(tree):
                if isinstance(node, ast.Name) and isinstance(node.ctx, ast.Load) and node.id in tables:
                    self.assertIn(node, looked_at, (path, node.lineno))

    def test_attributes_that_are_read_are_assigned(self):
        parts = [node for _, tree in trees() for node in ast.walk(tree)]
        stored = {node.attr for node in parts if isinstance(node, ast.Attribute) and isinstance(node.ctx, ast.Store)}
        called = {node.func for node in parts if isinstance(node, ast.Call)}
        for node in parts:
            if isinstance(node, ast.Attribute) and node not in called:
                self.assertIn(node.attr, stored)

    def test_methods_and_attributes(self):
        taken = {name for kind in (str, int, list, dict, set, bytes) for name in dir(kind)}
        for path, tree in trees():
            for node in ast.walk(tree):
                if isinstance(node, ast.ClassDef):
                    methods = {part.name for part in node.body if isinstance(part, ast.FunctionDef)}
                    self.assertEqual(methods & taken, methods & {"__init__", "discard"}, path)
                    stored = {part.attr for part in ast.walk(node)
                              if isinstance(part, ast.Attribute) and isinstance(part.ctx, ast.Store)}
                    self.assertEqual(stored & (methods | taken), set(), path)


if __name__ == "__main__":
    unittest.main()
