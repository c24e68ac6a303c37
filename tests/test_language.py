"""The package keeps to the small part of Python that LANGUAGE.md tells; the rules that a test can see."""

import ast
import builtins
import pathlib
import re
import unittest

PACKAGE = pathlib.Path(__file__).resolve().parent.parent / "joinedobjects"
FILES = sorted(path for path in PACKAGE.rglob("*") if "__pycache__" not in path.parts)

NODES = """
Module FunctionDef ClassDef Return Assign AugAssign For While If Raise Try Pass Break Continue Expr ImportFrom
ExceptHandler BoolOp And Or BinOp Add Sub Mult FloorDiv Mod Pow BitAnd BitOr BitXor LShift RShift UnaryOp Not USub
Invert Compare Eq NotEq Lt LtE Gt GtE Is IsNot In NotIn IfExp Call keyword Attribute Subscript Slice Name Load Store
Constant List Tuple Dict ListComp comprehension arguments arg alias Lambda JoinedStr FormattedValue
""".split()

BUILTINS = """
len range enumerate zip min max sum abs sorted reversed int str bool list tuple dict set frozenset isinstance ord repr
any all divmod Exception ValueError TypeError KeyError IndexError LookupError ZeroDivisionError ArithmeticError
OverflowError RuntimeError NotImplementedError AttributeError StopIteration
""".split()

METHODS = """
append clear copy count endswith extend find get index insert isalnum isalpha isdigit islower isspace isupper items
join keys ljust lower lstrip partition pop remove replace reverse rfind rjust rpartition rsplit rstrip setdefault split
splitlines startswith strip update upper values zfill bit_length
""".split()

OUT_OF_USE = """
type typing typing_extensions enum Enum IntEnum StrEnum Flag IntFlag Generic Protocol ABC ABCMeta namedtuple NamedTuple
TypedDict TYPE_CHECKING abstractmethod register mro elements open input version_info with_traceback add_note
""".split()

WALKED = ("zip", "enumerate", "reversed", "range")
WALKERS = ("list", "tuple", "dict", "sorted", "sum", "any", "all", "enumerate", "zip", "min", "max")


def trees():
    return [(path, ast.parse(path.read_text())) for path in FILES]


def names_bound(tree):
    for node in ast.walk(tree):
        if isinstance(node, ast.Name) and isinstance(node.ctx, ast.Store):
            yield node.id
        elif isinstance(node, ast.arg):
            yield node.arg
        elif isinstance(node, (ast.FunctionDef, ast.ClassDef)):
            yield node.name
        elif isinstance(node, ast.Attribute):
            yield node.attr


class Signs(unittest.TestCase):
    def test_files(self):
        self.assertIn(PACKAGE / "__init__.py", FILES)
        for path in FILES:
            self.assertRegex(path.name, r"\A([a-z][a-z0-9_]*|__init__)\.py\Z")
            self.assertNotIn(path.stem, dir(builtins))
            self.assertNotRegex(path.stem, r"\A(test.*|site|conftest|sitecustomize|usercustomize)\Z")

    def test_signs_and_sizes(self):
        for path in FILES:
            raw = path.read_bytes()
            self.assertTrue(all(byte == 10 or 32 <= byte <= 126 for byte in raw), path)
            lines = raw.decode().splitlines()
            self.assertLessEqual(len(lines), 400, path)
            self.assertLessEqual(max(len(line) for line in lines), 120, path)

    def test_words_out_of_use(self):
        for path in FILES:
            text = path.read_text()
            for word in OUT_OF_USE:
                self.assertIsNone(re.search(rf"\b{word}\b", text), (path, word))
            for word in ("dataclass", "overload", "contextmanager"):
                self.assertNotIn(word, text, path)


class Forms(unittest.TestCase):
    def test_nodes(self):
        for path, tree in trees():
            for node in ast.walk(tree):
                self.assertIn(node.__class__.__name__, NODES, (path, getattr(node, "lineno", 0)))

    def test_the_top_of_a_file(self):
        for path, tree in trees():
            bound = []
            for place, node in enumerate(tree.body):
                if isinstance(node, ast.Expr):
                    self.assertEqual((place, isinstance(node.value, ast.Constant)), (0, True), path)
                elif isinstance(node, ast.Assign):
                    bound.append(node.targets[0].id)
                    ast.literal_eval(node.value)
                elif isinstance(node, ast.ImportFrom):
                    bound += [alias.name for alias in node.names]
                else:
                    self.assertIsInstance(node, (ast.FunctionDef, ast.ClassDef), path)
                    bound.append(node.name)
            self.assertEqual(len(bound), len(set(bound)), path)

    def test_functions_and_classes(self):
        for path, tree in trees():
            for node in ast.walk(tree):
                if isinstance(node, ast.FunctionDef):
                    where = (path, node.name)
                    self.assertLessEqual(node.end_lineno - node.lineno + 1, 40, where)
                    self.assertFalse(node.decorator_list or node.args.vararg or node.args.kwarg or node.args.kwonlyargs, where)
                if isinstance(node, ast.ClassDef):
                    self.assertTrue(all(isinstance(part, (ast.FunctionDef, ast.Pass)) for part in node.body), path)
                    self.assertLessEqual(len(node.bases), 1, path)

    def test_statements(self):
        for path, tree in trees():
            for node in ast.walk(tree):
                where = (path, getattr(node, "lineno", 0))
                if isinstance(node, ast.Assign):
                    self.assertEqual(len(node.targets), 1, where)
                    self.assertNotIsInstance(node.targets[0], (ast.Tuple, ast.List), where)
                if isinstance(node, (ast.For, ast.While)):
                    self.assertEqual(node.orelse, [], where)
                if isinstance(node, ast.Try):
                    self.assertEqual(node.finalbody, [], where)
                if isinstance(node, ast.ListComp):
                    self.assertTrue(len(node.generators) == 1 and len(node.generators[0].ifs) <= 1, where)
                if isinstance(node, ast.Constant):
                    self.assertTrue(node.value is None or isinstance(node.value, (bool, int, str)), where)
                if isinstance(node, ast.Compare) and isinstance(node.ops[0], (ast.Is, ast.IsNot)):
                    self.assertIsInstance(node.comparators[0], ast.Constant, where)


class Names(unittest.TestCase):
    def test_plain_names(self):
        for path, tree in trees():
            for found in names_bound(tree):
                if found != "__init__":
                    self.assertRegex(found, r"\A[A-Za-z][A-Za-z0-9_]*\Z", path)

    def test_no_name_of_pythons_own_is_given_another_meaning(self):
        for path, tree in trees():
            stored = [node.id for node in ast.walk(tree) if isinstance(node, ast.Name) and isinstance(node.ctx, ast.Store)]
            stored += [node.arg for node in ast.walk(tree) if isinstance(node, ast.arg)]
            imported = [alias.name for node in tree.body if isinstance(node, ast.ImportFrom) for alias in node.names]
            classes = [node.name for node in tree.body if isinstance(node, ast.ClassDef)]
            self.assertEqual(set(stored) & (set(dir(builtins)) | set(imported) | set(classes)), set(), path)

    def test_only_the_listed_names_of_pythons_own(self):
        for path, tree in trees():
            used = {node.id for node in ast.walk(tree) if isinstance(node, ast.Name)}
            self.assertEqual(used & set(dir(builtins)) - set(BUILTINS), set(), path)

    def test_only_the_listed_methods(self):
        for path, tree in trees():
            for node in ast.walk(tree):
                if isinstance(node, ast.Call) and isinstance(node.func, ast.Attribute):
                    self.assertIn(node.func.attr, METHODS, (path, node.lineno))

    def test_values_of_objects(self):
        taken = set()
        for value in ("", 0, [], {}, set(), b"", ()):
            taken |= set(dir(value))
        for path, tree in trees():
            for node in ast.walk(tree):
                if isinstance(node, ast.Attribute) and isinstance(node.ctx, ast.Store):
                    self.assertNotIn(node.attr, taken, (path, node.lineno))

    def test_walked_on_the_spot(self):
        for path, tree in trees():
            allowed = []
            for node in ast.walk(tree):
                if isinstance(node, (ast.For, ast.comprehension)):
                    allowed.append(node.iter)
                if isinstance(node, ast.Call) and isinstance(node.func, ast.Name) and node.func.id in WALKERS:
                    allowed += node.args
            for node in ast.walk(tree):
                if isinstance(node, ast.Call):
                    own = isinstance(node.func, ast.Name) and node.func.id in WALKED
                    method = isinstance(node.func, ast.Attribute) and node.func.attr in ("items", "keys", "values")
                    if own or method:
                        self.assertTrue(any(node is one for one in allowed), (path, node.lineno))


class Imports(unittest.TestCase):
    def test_only_the_packages_own_and_from_the_file_that_defines_them(self):
        defined = {}
        for path, tree in trees():
            defined[path.stem] = [
                node.targets[0].id if isinstance(node, ast.Assign) else node.name
                for node in tree.body if isinstance(node, (ast.Assign, ast.FunctionDef, ast.ClassDef))
            ]
        for path, tree in trees():
            for node in ast.walk(tree):
                if isinstance(node, ast.ImportFrom):
                    self.assertEqual((node.level, node.module.split(".")[0]), (0, "joinedobjects"), path)
                    for alias in node.names:
                        self.assertIn(alias.name, defined[node.module.split(".")[1]], path)
                        used = [one for one in ast.walk(tree) if isinstance(one, ast.Name) and one.id == alias.name]
                        self.assertTrue(used, (path, alias.name))

    def test_no_two_files_draw_from_one_another(self):
        draws = {}
        for path, tree in trees():
            draws[path.stem] = {node.module.split(".")[1] for node in tree.body if isinstance(node, ast.ImportFrom)}
        while draws:
            free = [stem for stem, needs in draws.items() if not needs & set(draws)]
            self.assertTrue(free, draws)
            draws = {stem: needs for stem, needs in draws.items() if stem not in free}


if __name__ == "__main__":
    unittest.main()
