"""The rules of the language that a test can see: signs, sizes, imports, names, statements."""

import ast
import builtins
import pathlib
import re
import unittest

PACKAGE = pathlib.Path(__file__).resolve().parent.parent / "clockzones"
OWN_NAMES = set("""len range enumerate zip min max sum abs sorted reversed int str bool list tuple dict set frozenset
    isinstance ord repr any all divmod KeyError ZeroDivisionError StopIteration ValueError LookupError IndexError
    Exception""".split())
OWN_METHODS = set("""append clear copy count endswith extend find get index insert isalnum isalpha isdigit islower
    isspace isupper items join keys ljust lower lstrip partition pop remove replace reverse rfind rjust rpartition rsplit
    rstrip setdefault split splitlines startswith strip update upper values zfill bit_length""".split())
NEVER = re.compile(r"\b(type|typing|typing_extensions|enum|Enum|IntEnum|StrEnum|Flag|IntFlag|Generic|Protocol|ABC|ABCMeta"
                   r"|namedtuple|NamedTuple|TypedDict|TYPE_CHECKING|abstractmethod)\b|dataclass|overload|contextmanager")
NODES = tuple(getattr(ast, name) for name in """Module Expr Assign AugAssign If While For Return Break Continue Pass
    Raise Try ExceptHandler FunctionDef ClassDef ImportFrom alias arguments arg Name Attribute Subscript Slice Constant
    List Tuple Dict BinOp UnaryOp BoolOp Compare IfExp Call keyword ListComp comprehension Lambda JoinedStr
    FormattedValue expr_context operator unaryop boolop cmpop""".split())


def files():
    return [path for path in sorted(PACKAGE.rglob("*")) if "__pycache__" not in path.parts]


def sources():
    return [(path.name, path.read_text(encoding="utf-8")) for path in files()]


def trees():
    return [(name, ast.parse(text)) for name, text in sources()]


class Language(unittest.TestCase):
    def test_files(self):
        self.assertTrue((PACKAGE / "__init__.py").is_file())
        for path in files():
            self.assertRegex(path.name, r"\A([a-z][a-z0-9_]*|__init__)\.py\Z")
            self.assertFalse(path.stem in vars(builtins), path.name)

    def test_signs_and_sizes(self):
        for name, text in sources():
            with self.subTest(name):
                self.assertRegex(text, r"\A[ -~\n]*\Z")
                self.assertIsNone(NEVER.search(text))
                self.assertLessEqual(len(text.splitlines()), 400)
                self.assertLessEqual(max([len(line) for line in text.splitlines()]), 120)

    def test_functions_are_short(self):
        for name, tree in trees():
            for node in ast.walk(tree):
                if isinstance(node, ast.FunctionDef):
                    self.assertLessEqual(node.end_lineno - node.lineno + 1, 40, f"{name}: {node.name}")
                    self.assertEqual(node.decorator_list, [])

    def test_statements_and_expressions(self):
        for name, tree in trees():
            for node in ast.walk(tree):
                where = f"{name}:{getattr(node, 'lineno', 0)}"
                self.assertIsInstance(node, NODES, where)
                self.assertNotIsInstance(node, (ast.Div, ast.MatMult), where)
                if isinstance(node, ast.Compare) and isinstance(node.ops[0], (ast.Is, ast.IsNot)):
                    self.assertIsInstance(node.comparators[0], ast.Constant, where)
                    self.assertIn(node.comparators[0].value, (None, True, False), where)
                if isinstance(node, ast.Assign):
                    self.assertEqual(len(node.targets), 1, where)
                if isinstance(node, ast.Constant):
                    self.assertIn(type(node.value), (int, str, bool, type(None)), where)

    def test_imports(self):
        for name, tree in trees():
            for node in ast.walk(tree):
                if isinstance(node, ast.ImportFrom):
                    self.assertEqual(node.level, 0, name)
                    self.assertRegex(node.module, r"\Aclockzones\.[a-z_]+\Z", name)
                    drawn = ast.parse((PACKAGE / (node.module.split(".")[1] + ".py")).read_text())
                    for one in node.names:
                        self.assertIn(one.name, self.bound_at_top(drawn), f"{name}: {one.name}")
                        self.assertIsNone(one.asname)

    def bound_at_top(self, tree):
        names = []
        for node in tree.body:
            if isinstance(node, (ast.FunctionDef, ast.ClassDef)):
                names.append(node.name)
            if isinstance(node, ast.Assign):
                names.append(node.targets[0].id)
        return names

    def test_names(self):
        for name, tree in trees():
            top = self.bound_at_top(tree)
            self.assertEqual(len(top), len(set(top)), name)
            for node in ast.walk(tree):
                bound = getattr(node, "arg", None) or getattr(node, "id", None)
                if isinstance(node, (ast.arg, ast.Name)):
                    self.assertRegex(bound, r"\A[A-Za-z]", name)
                    if isinstance(node, ast.arg) or isinstance(node.ctx, ast.Store):
                        self.assertFalse(bound in vars(builtins), f"{name}: {bound}")
                    elif bound in vars(builtins):
                        self.assertIn(bound, OWN_NAMES, name)

    def test_no_two_files_draw_from_one_another(self):
        drawn = {}
        for name, tree in trees():
            imports = [node for node in ast.walk(tree) if isinstance(node, ast.ImportFrom)]
            drawn[name] = {node.module.split(".")[1] + ".py" for node in imports}
        while drawn:
            free = [name for name, others in drawn.items() if not others & set(drawn)]
            self.assertTrue(free, f"they draw from one another: {sorted(drawn)}")
            for name in free:
                drawn.pop(name)

    def test_locals_are_not_called_like_imports_or_classes(self):
        for name, tree in trees():
            taken = {one.name for node in tree.body if isinstance(node, ast.ImportFrom) for one in node.names}
            taken |= {node.name for node in tree.body if isinstance(node, ast.ClassDef)}
            for node in ast.walk(tree):
                if isinstance(node, ast.arg):
                    self.assertNotIn(node.arg, taken, name)
                if isinstance(node, ast.Name) and isinstance(node.ctx, ast.Store):
                    self.assertNotIn(node.id, taken, name)

    def test_values_of_objects(self):
        methods, values = set(), set()
        for _, tree in trees():
            for node in ast.walk(tree):
                if isinstance(node, ast.ClassDef):
                    methods |= {one.name for one in node.body if isinstance(one, ast.FunctionDef)}
                if isinstance(node, ast.Attribute) and isinstance(node.ctx, ast.Store):
                    values.add(node.attr)
        self.assertEqual(methods & values, set())
        for kind in (str, int, list, dict, set, bytes, tuple):
            self.assertEqual((methods | values) & set(dir(kind)) - {"__init__"}, set())

    def test_methods(self):
        own = [node.name for _, tree in trees() for node in ast.walk(tree) if isinstance(node, ast.FunctionDef)]
        for name, tree in trees():
            for node in ast.walk(tree):
                if isinstance(node, ast.Call) and isinstance(node.func, ast.Attribute):
                    self.assertIn(node.func.attr, OWN_METHODS | set(own), name)


if __name__ == "__main__":
    unittest.main()
