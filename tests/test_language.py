"""What the program's subset of Python does not allow, where it is easy to see.

The numbers are those of the rules in LANGUAGE.md. Not every rule is tested.
"""

import ast
import builtins
import pathlib
import unittest

FOLDER = pathlib.Path(__file__).resolve().parent.parent / "tessera"
FILES = sorted(FOLDER.rglob("*.py"))

LIBRARY = {
    "heapq": "heappush heappop heapify heapreplace heappushpop",
    "math": "gcd lcm isqrt comb perm factorial",
    "itertools": "product combinations permutations chain accumulate pairwise islice zip_longest",
    "collections": "defaultdict",
}
BUILTINS = set(
    "len range enumerate zip min max sum abs sorted reversed int str bool list tuple dict set isinstance ord repr "
    "any all divmod pow getattr hasattr setattr map iter next super property staticmethod classmethod "
    "Exception ValueError TypeError KeyError IndexError LookupError ZeroDivisionError ArithmeticError OverflowError "
    "RuntimeError NotImplementedError AttributeError StopIteration NotImplemented".split()
)
METHODS = set(
    "append clear copy count endswith extend find get index insert isalnum isalpha isdigit islower isspace isupper "
    "items join keys ljust lower lstrip partition pop remove replace reverse rfind rjust rpartition rsplit rstrip "
    "setdefault split splitlines startswith strip update upper values zfill bit_length title capitalize swapcase "
    "casefold center expandtabs removeprefix removesuffix rindex isascii isdecimal isnumeric istitle isidentifier "
    "isprintable translate add discard sort format".split()
)
SPECIAL_METHODS = set(
    "init eq repr str len enter exit call iter lt le gt ge ne add sub mul floordiv mod pow and or xor lshift rshift "
    "neg pos invert abs bool contains getitem setitem".split()
)
STATEMENTS = (
    ast.Assign, ast.AugAssign, ast.AnnAssign, ast.If, ast.While, ast.For, ast.Return, ast.Break, ast.Continue,
    ast.Pass, ast.Raise, ast.Assert, ast.Delete, ast.Nonlocal, ast.Match, ast.With, ast.Try, ast.Expr,
    ast.FunctionDef, ast.ClassDef, ast.ImportFrom,
)
MODULE_LEVEL = (ast.Expr, ast.ImportFrom, ast.FunctionDef, ast.ClassDef, ast.Assign)
BARRED_NAMES = set(
    "register mro elements open input law version_info with_traceback add_note attrgetter breakpoint builtins compile "
    "copyright credits delattr dir eval exec exit gc globals help id importlib license locals methodcaller os quit "
    "type vars sys global async bytearray memoryview chr bytes frozenset _record".split()
)
CAUGHT_FREELY = {"KeyError", "ZeroDivisionError"}


def trees():
    return [(path, ast.parse(path.read_text())) for path in FILES]


def bound_names(tree):
    """The names that a file gives a meaning, and where."""
    for node in ast.walk(tree):
        if isinstance(node, (ast.FunctionDef, ast.ClassDef)):
            yield node.name, node
        elif isinstance(node, ast.arg):
            yield node.arg, node
        elif isinstance(node, ast.Name) and not isinstance(node.ctx, ast.Load):
            yield node.id, node
        elif isinstance(node, ast.ImportFrom):
            for alias in node.names:
                yield alias.name, node


def top_names(tree):
    """The names that are bound at module level."""
    names = []
    for node in tree.body:
        if isinstance(node, (ast.FunctionDef, ast.ClassDef)):
            names.append(node.name)
        elif isinstance(node, ast.Assign):
            names.extend([target.id for target in node.targets])
    return names


def imported_files(tree):
    return [node.module for node in tree.body if isinstance(node, ast.ImportFrom)]


class LanguageTests(unittest.TestCase):
    def each(self, *kinds):
        """Go through the nodes of these kinds, each with its place in words."""
        for path, tree in trees():
            for node in ast.walk(tree):
                if isinstance(node, kinds):
                    yield f"{path.name}, line {getattr(node, 'lineno', 0)}", node

    def test_l1_the_folder_holds_files_with_plain_names(self):
        for path in FOLDER.rglob("*"):
            if "__pycache__" not in path.parts and path.is_file():
                self.assertEqual(path.suffix, ".py")
                self.assertTrue(path.stem.replace("_", "").isalnum() and path.stem == path.stem.lower())
        self.assertTrue((FOLDER / "__init__.py").is_file())

    def test_l2_l16_imports(self):
        modules = {"tessera." + path.stem: top_names(tree) for path, tree in trees()}
        for place, node in self.each(ast.Import):
            self.fail(f"a plain import: {place}")
        for place, node in self.each(ast.ImportFrom):
            self.assertEqual(node.level, 0, place)
            due = modules.get(node.module, LIBRARY.get(node.module, "").split())
            for alias in node.names:
                self.assertIn(alias.name, due, place)
                self.assertIsNone(alias.asname, place)

    def test_l16_no_two_files_import_from_each_other(self):
        imports = {"tessera." + path.stem: imported_files(tree) for path, tree in trees()}
        seen = []

        def visit(name, above):
            self.assertNotIn(name, above)
            if name not in seen:
                for other in imports.get(name, []):
                    visit(other, above + [name])
                seen.append(name)

        for name in imports:
            visit(name, [])

    def test_l3_l15_module_level(self):
        for path, tree in trees():
            with self.subTest(file=path.name):
                names = top_names(tree)
                for node in tree.body:
                    self.assertIsInstance(node, MODULE_LEVEL)
                    if isinstance(node, ast.Expr):
                        self.assertIsInstance(node.value, ast.Constant)
                    if isinstance(node, ast.ImportFrom):
                        names.extend([alias.name for alias in node.names])
                    if isinstance(node, ast.Assign):
                        self.assertEqual(len(node.targets), 1)
                        self.assertEqual([n for n in ast.walk(node.value) if isinstance(n, ast.Call)], [])
                self.assertEqual(len(names), len(set(names)))

    def test_l5_classes(self):
        for place, node in self.each(ast.ClassDef):
            self.assertEqual(node.decorator_list, [], place)
            for method in node.body:
                name = getattr(method, "name", "")
                if name.startswith("__"):
                    self.assertIn(name.strip("_"), SPECIAL_METHODS, place)

    def test_l6_statements(self):
        for place, node in self.each(ast.stmt):
            self.assertIsInstance(node, STATEMENTS, place)

    def test_l7_expressions(self):
        for place, node in self.each(ast.BinOp, ast.AugAssign):
            self.assertNotIsInstance(node.op, ast.Div, place)
        for place, node in self.each(ast.Constant):
            self.assertNotIsInstance(node.value, (float, complex, bytes), place)
        # Layouts can be compared, and then any, all and the like take lists.
        for place, node in self.each(ast.GeneratorExp):
            self.fail(f"a generator expression: {place}")

    def test_l8_builtins(self):
        for place, node in self.each(ast.Name):
            if isinstance(node.ctx, ast.Load) and hasattr(builtins, node.id):
                self.assertIn(node.id, BUILTINS, place)

    def test_l10_sizes(self):
        for place, node in self.each(ast.FunctionDef):
            self.assertLessEqual(node.end_lineno - node.lineno + 1, 40, place)
        for path in FILES:
            lines = path.read_text().split("\n")
            self.assertLessEqual(len(lines), 399, path.name)
            self.assertLessEqual(max([len(line) for line in lines]), 120, path.name)

    def test_l12_l15_l17_names(self):
        for path, tree in trees():
            classes = [node for node in ast.walk(tree) if isinstance(node, ast.ClassDef)]
            methods = [method for node in classes for method in node.body]
            for name, node in bound_names(tree):
                with self.subTest(file=path.name, name=name):
                    self.assertNotIn(name, BARRED_NAMES)
                    if node not in methods:
                        self.assertFalse(name.startswith("__"))
                        self.assertFalse(hasattr(builtins, name))

    def test_l15_no_variable_has_the_name_of_a_class_or_an_import(self):
        for path, tree in trees():
            taken = {node.name for node in tree.body if isinstance(node, ast.ClassDef)}
            for node in tree.body:
                if isinstance(node, ast.ImportFrom):
                    taken |= {alias.name for alias in node.names}
            for node in ast.walk(tree):
                name = node.arg if isinstance(node, ast.arg) else None
                if isinstance(node, ast.Name) and not isinstance(node.ctx, ast.Load):
                    name = node.id
                self.assertNotIn(name, taken, f"{path.name}, line {getattr(node, 'lineno', 0)}")

    def test_l18_no_name_is_a_method_and_an_attribute_of_a_class(self):
        for place, node in self.each(ast.ClassDef):
            methods = {method.name for method in node.body if isinstance(method, ast.FunctionDef)}
            stored = {
                part.attr for part in ast.walk(node)
                if isinstance(part, ast.Attribute) and isinstance(part.ctx, ast.Store)
            }
            self.assertEqual(methods & stored, set(), place)

    def test_l23_generators_have_names_of_their_own(self):
        functions = [node for _, node in self.each(ast.FunctionDef)]
        names = [node.name for node in functions]
        for node in functions:
            if any(isinstance(part, (ast.Yield, ast.YieldFrom)) for part in ast.walk(node)):
                self.assertEqual(names.count(node.name), 1)
                self.assertNotIn(node.name, METHODS)

    def test_l26_attributes(self):
        barred = "items keys values pop update append clear extend insert remove reverse setdefault sort args encode " \
            "decode hex fromhex format".split()
        for place, node in self.each(ast.Attribute):
            if isinstance(node.ctx, ast.Store):
                self.assertNotIn(node.attr, barred, place)

    def test_l14_characters(self):
        for path in FILES:
            data = path.read_bytes()
            self.assertTrue(all(byte == 10 or 32 <= byte <= 126 for byte in data), path.name)

    def test_l19_caught_errors(self):
        own = top_names(ast.parse((FOLDER / "errors.py").read_text())) + ["BadWord"]
        for place, node in self.each(ast.ExceptHandler):
            self.assertIsNotNone(node.type, place)
            caught = node.type.elts if isinstance(node.type, ast.Tuple) else [node.type]
            for name in caught:
                self.assertIn(name.id, CAUGHT_FREELY | set(own), place)

    def test_l25_methods(self):
        own = [node.name for _, node in self.each(ast.FunctionDef)]
        for place, node in self.each(ast.Call):
            if isinstance(node.func, ast.Attribute) and node.func.attr != "__init__":
                self.assertIn(node.func.attr, METHODS | set(own), place)

    def test_l27_strings_and_exponents(self):
        for place, node in self.each(ast.Constant):
            if isinstance(node.value, str):
                self.assertNotIn("%", node.value, place)
                self.assertFalse(node.value.startswith("__") or node.value.endswith(("._", ".__")), place)
        for place, node in self.each(ast.BinOp):
            if isinstance(node.op, ast.Pow):
                self.assertIsInstance(node.right, ast.Constant, place)


if __name__ == "__main__":
    unittest.main()
