"""The package keeps to the part of Python that LANGUAGE.md allows, as far as a look at its files can tell."""

import ast
import pathlib
import re
import unittest

FOLDER = pathlib.Path(__file__).resolve().parent.parent / "buildqueries"
FILES = sorted(path for path in FOLDER.rglob("*") if "__pycache__" not in path.parts)
BUILT_IN = set(
    "len range enumerate zip min max sum abs sorted reversed int str bool list tuple dict set frozenset isinstance ord repr "
    "any all divmod Exception ValueError TypeError KeyError IndexError LookupError ZeroDivisionError ArithmeticError "
    "OverflowError RuntimeError NotImplementedError AttributeError StopIteration".split()
)
METHODS = set(
    "append clear copy count endswith extend find get index insert isalnum isalpha isdigit islower isspace isupper items join "
    "keys ljust lower lstrip partition pop remove replace reverse rfind rjust rpartition rsplit rstrip setdefault split "
    "splitlines startswith strip update upper values zfill bit_length".split()
)
NODES = (
    "Module Expr Constant ImportFrom alias FunctionDef arguments arg ClassDef Assign AugAssign If While For Return Break Continue "
    "Pass Raise Try ExceptHandler Call Attribute Subscript Slice Name Load Store List Tuple Dict BinOp Add Sub Mult FloorDiv Mod "
    "BitAnd BitOr BitXor LShift RShift UnaryOp USub Not Invert BoolOp And Or Compare Eq NotEq Lt LtE Gt GtE In NotIn Is IsNot "
    "IfExp ListComp comprehension JoinedStr FormattedValue Lambda"
).split()
BANNED_WORDS = re.compile(
    r"\b(type|typing|typing_extensions|enum|Enum|IntEnum|StrEnum|Flag|IntFlag|Generic|Protocol|ABC|ABCMeta|namedtuple|NamedTuple"
    r"|TypedDict|TYPE_CHECKING|abstractmethod)\b|dataclass|overload|contextmanager"
)
BANNED_NAMES = set("register mro elements open input version_info with_traceback add_note format format_map sort args encode".split())
LAZY = ("zip", "enumerate", "reversed", "range")
WALKERS = ("list", "tuple", "dict", "sorted", "sum", "any", "all", "enumerate", "zip", "min", "max")


def parsed():
    return [(path, ast.parse(path.read_text("ascii"))) for path in FILES]


def own_methods(trees):
    classes = [part for path, tree in trees for part in tree.body if isinstance(part, ast.ClassDef)]
    return {part.name for found in classes for part in found.body if isinstance(part, ast.FunctionDef)}


class Language(unittest.TestCase):
    def each(self, kind):
        for path, tree in parsed():
            for part in ast.walk(tree):
                if isinstance(part, kind):
                    yield f"{path.name}:{getattr(part, 'lineno', 0)}", part

    def test_files(self):
        self.assertIn("graph.py", [path.name for path in FILES])
        self.assertIn("__init__.py", [path.name for path in FILES])
        for path in FILES:
            self.assertTrue(path.is_file() and re.fullmatch(r"(__init__|[a-z][a-z0-9_]*)\.py", path.name), path)

    def test_signs_and_sizes(self):
        for path in FILES:
            text = path.read_text("ascii")
            self.assertRegex(text, r"\A[\n -~]*\Z", path)
            self.assertIsNone(BANNED_WORDS.search(text), path)
            self.assertLessEqual(len(text.splitlines()), 400, path)
            self.assertLessEqual(max(len(line) for line in text.splitlines()), 120, path)

    def test_only_known_parts_of_python(self):
        for where, part in self.each(ast.AST):
            self.assertIn(type(part).__name__, NODES, where)

    def test_functions(self):
        for where, part in self.each(ast.FunctionDef):
            self.assertLessEqual(part.end_lineno - part.lineno + 1, 40, where)
            given = part.args
            self.assertFalse(part.decorator_list or given.vararg or given.kwarg or given.kwonlyargs or given.posonlyargs, where)
            self.assertFalse(part.returns or [one for one in given.args if one.annotation], where)

    def test_classes(self):
        for where, part in self.each(ast.ClassDef):
            self.assertLessEqual(len(part.bases), 1, where)
            self.assertFalse(part.decorator_list or part.keywords, where)
            for inner in part.body:
                is_doc = isinstance(inner, ast.Expr) and isinstance(inner.value, ast.Constant)
                self.assertTrue(is_doc or isinstance(inner, ast.FunctionDef), where)

    def test_assignments(self):
        for where, part in self.each(ast.Assign):
            self.assertEqual(len(part.targets), 1, where)
            self.assertNotIsInstance(part.targets[0], (ast.Tuple, ast.List), where)

    def test_loops(self):
        for where, part in self.each((ast.For, ast.While)):
            self.assertFalse(part.orelse, where)
        for where, part in self.each(ast.Try):
            self.assertFalse(part.finalbody, where)

    def test_values(self):
        for where, part in self.each(ast.Constant):
            self.assertIn(type(part.value), (int, str, bool, type(None)), where)
            if isinstance(part.value, str):
                self.assertNotIn("%", part.value, where)
        for where, part in self.each(ast.Compare):
            if any(isinstance(sign, (ast.Is, ast.IsNot)) for sign in part.ops):
                self.assertTrue(all(isinstance(side, ast.Constant) for side in part.comparators), where)

    def test_names(self):
        for where, part in self.each((ast.Name, ast.arg, ast.Attribute, ast.FunctionDef, ast.ClassDef)):
            name = getattr(part, "id", None) or getattr(part, "arg", None) or getattr(part, "attr", None) or part.name
            self.assertRegex(name, r"\A([A-Za-z]\w*|__init__)\Z", where)
            self.assertNotIn(name, BANNED_NAMES, where)

    def test_names_of_pythons_own(self):
        import builtins
        for where, part in self.each(ast.Name):
            if part.id in dir(builtins):
                self.assertIn(part.id, BUILT_IN, where)
                self.assertIsInstance(part.ctx, ast.Load, where)
        for where, part in self.each((ast.arg, ast.FunctionDef, ast.ClassDef)):
            self.assertNotIn(getattr(part, "arg", None) or part.name, dir(builtins), where)

    def test_locals_are_not_called_like_what_is_imported_or_a_class(self):
        for path, tree in parsed():
            taken = {one.name for part in tree.body if isinstance(part, ast.ImportFrom) for one in part.names}
            taken |= {part.name for part in tree.body if isinstance(part, ast.ClassDef)}
            for part in ast.walk(tree):
                if isinstance(part, ast.Name) and isinstance(part.ctx, ast.Store):
                    self.assertNotIn(part.id, taken, path)
                if isinstance(part, ast.arg):
                    self.assertNotIn(part.arg, taken, path)

    def test_methods(self):
        own = own_methods(parsed())
        for where, part in self.each(ast.Call):
            if isinstance(part.func, ast.Attribute):
                self.assertIn(part.func.attr, METHODS | own, where)
        for where, part in self.each(ast.Attribute):
            if isinstance(part.ctx, ast.Store):
                self.assertNotIn(part.attr, own | METHODS, where)

    def test_walked_at_once(self):
        allowed = set()
        for where, part in self.each((ast.For, ast.comprehension)):
            allowed.add((where.split(":")[0], ast.dump(part.iter, include_attributes=True)))
        for where, part in self.each(ast.Call):
            if isinstance(part.func, ast.Name) and part.func.id in WALKERS and part.args:
                allowed.add((where.split(":")[0], ast.dump(part.args[0], include_attributes=True)))
        for where, part in self.each(ast.Call):
            lazy = isinstance(part.func, ast.Name) and part.func.id in LAZY
            if lazy or isinstance(part.func, ast.Attribute) and part.func.attr in ("items", "keys", "values"):
                self.assertIn((where.split(":")[0], ast.dump(part, include_attributes=True)), allowed, where)

    def test_imports(self):
        drawn = {}
        defined = {}
        for path, tree in parsed():
            rows = [part for part in tree.body if isinstance(part, ast.ImportFrom)]
            drawn[path.stem] = [part.module.split(".")[1] for part in rows]
            defined[path.stem] = {part.name for part in tree.body if isinstance(part, (ast.FunctionDef, ast.ClassDef))}
            defined[path.stem] |= {part.targets[0].id for part in tree.body if isinstance(part, ast.Assign)}
            self.assertEqual(len(rows), len([part for part in ast.walk(tree) if isinstance(part, ast.ImportFrom)]), path)
        for path, tree in parsed():
            for part in tree.body:
                if isinstance(part, ast.ImportFrom):
                    self.assertTrue(part.level == 0 and part.module.startswith("buildqueries."), path)
                    for one in part.names:
                        self.assertIn(one.name, defined[part.module.split(".")[1]], path)
                        self.assertIsNone(one.asname, path)
        left = dict(drawn)
        while left:
            free = [stem for stem, others in left.items() if not set(others) & set(left)]
            self.assertTrue(free, f"files that draw from one another: {sorted(left)}")
            left = {stem: others for stem, others in left.items() if stem not in free}

    def test_tops_of_files(self):
        for path, tree in parsed():
            self.assertIsInstance(ast.get_docstring(tree), str, path)
            bound = [part.targets[0].id for part in tree.body if isinstance(part, ast.Assign)]
            bound += [part.name for part in tree.body if isinstance(part, (ast.FunctionDef, ast.ClassDef))]
            self.assertEqual(len(bound), len(set(bound)), path)
            for part in tree.body[1:]:
                self.assertIsInstance(part, (ast.ImportFrom, ast.FunctionDef, ast.ClassDef, ast.Assign), path)
                if isinstance(part, ast.Assign):
                    ast.literal_eval(part.value)


if __name__ == "__main__":
    unittest.main()
