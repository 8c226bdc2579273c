"""What of the language's rules can be seen in the files: names, sizes, imports and what stands in them."""

import ast
import builtins
import pathlib
import re
import unittest

FOLDER = pathlib.Path(__file__).resolve().parent.parent / "partsmet"
FILES = sorted(FOLDER.rglob("*.py"))

BUILTINS = set(
    "len range enumerate zip min max sum abs sorted reversed int str bool list tuple dict set isinstance ord repr any "
    "all divmod Exception ValueError TypeError KeyError IndexError LookupError ZeroDivisionError ArithmeticError "
    "OverflowError RuntimeError NotImplementedError AttributeError".split()
)
METHODS = set(
    "append clear copy count endswith extend find get index insert isalnum isalpha isdigit islower isspace isupper "
    "items join keys ljust lower lstrip partition pop remove replace reverse rfind rjust rpartition rsplit rstrip "
    "setdefault split splitlines startswith strip update upper values zfill bit_length sort add discard".split()
)
BARRED_NAMES = set("register mro elements open input law version_info with_traceback add_note".split())
BARRED_WORDS = set(
    "type typing typing_extensions enum Enum IntEnum StrEnum Flag IntFlag Generic Protocol ABC ABCMeta namedtuple "
    "NamedTuple TypedDict TYPE_CHECKING abstractmethod".split()
)
NODES = (
    ast.Module, ast.FunctionDef, ast.ClassDef, ast.arguments, ast.arg, ast.ImportFrom, ast.alias, ast.Return,
    ast.Assign, ast.AugAssign, ast.For, ast.While, ast.If, ast.Raise, ast.Assert, ast.Delete, ast.Pass, ast.Break,
    ast.Continue, ast.Expr, ast.Try, ast.ExceptHandler, ast.BoolOp, ast.And, ast.Or, ast.BinOp, ast.Add, ast.Sub,
    ast.Mult, ast.FloorDiv, ast.Mod, ast.UnaryOp, ast.Not, ast.USub, ast.Compare, ast.Eq, ast.NotEq, ast.Lt, ast.LtE,
    ast.Gt, ast.GtE, ast.In, ast.NotIn, ast.Is, ast.IsNot, ast.Call, ast.keyword, ast.IfExp, ast.Lambda, ast.ListComp,
    ast.DictComp, ast.SetComp, ast.GeneratorExp, ast.comprehension, ast.List, ast.Tuple, ast.Dict, ast.Constant,
    ast.Name, ast.Attribute, ast.Subscript, ast.Slice, ast.Load, ast.Store, ast.Del, ast.JoinedStr, ast.FormattedValue,
    ast.Starred, ast.LShift, ast.BitAnd, ast.With, ast.withitem,
)
OVER_METHODS = ("property", "classmethod")
SPECIAL_METHODS = set(
    "__init__ __len__ __contains__ __getitem__ __iter__ __call__ __enter__ __exit__".split()
)
EAGER = set("list tuple dict sorted sum min max any all".split())


def trees():
    return [(path, ast.parse(path.read_text())) for path in FILES]


def imported(tree):
    return [(node.module, alias.name) for node in tree.body if isinstance(node, ast.ImportFrom) for alias in node.names]


def methods():
    """The names of all methods that the package defines."""
    classes = [node for _, tree in trees() for node in tree.body if isinstance(node, ast.ClassDef)]
    return {inner.name for node in classes for inner in node.body if isinstance(inner, ast.FunctionDef)}


def bound(tree):
    """The names that a file gives to parameters, variables, caught errors, functions and classes."""
    for node in ast.walk(tree):
        if isinstance(node, (ast.FunctionDef, ast.ClassDef)):
            yield node.name
        elif isinstance(node, ast.arg):
            yield node.arg
        elif isinstance(node, ast.Name) and isinstance(node.ctx, ast.Store):
            yield node.id
        elif isinstance(node, ast.ExceptHandler) and node.name:
            yield node.name


class Files(unittest.TestCase):
    def test_nothing_else_in_the_folder(self):
        names = [path.name for path in FOLDER.iterdir() if path.name != "__pycache__"]
        self.assertEqual(sorted(names), [path.name for path in FILES])
        self.assertTrue(all(re.fullmatch(r"[a-z0-9_]+\.py", name) for name in names))

    def test_size_and_signs(self):
        for path in FILES:
            text = path.read_text()
            self.assertTrue(all(" " <= sign <= "~" or sign == "\n" for sign in text), path)
            self.assertTrue(text.endswith("\n"), path)
            lines = text.splitlines()
            self.assertLessEqual(len(lines), 399, path)
            self.assertLessEqual(max(len(line) for line in lines), 120, path)

    def test_size_of_functions(self):
        for path, tree in trees():
            for node in ast.walk(tree):
                if isinstance(node, ast.FunctionDef):
                    self.assertLessEqual(node.end_lineno - node.lineno + 1, 40, (path, node.name))

    def test_words(self):
        for path, tree in trees():
            docs = [
                node.body[0].value
                for node in ast.walk(tree)
                if isinstance(node, (ast.Module, ast.ClassDef, ast.FunctionDef)) and ast.get_docstring(node)
            ]
            for node in ast.walk(tree):
                if isinstance(node, ast.Constant) and isinstance(node.value, str):
                    self.assertNotIn("%", node.value, path)
                    if node not in docs:
                        self.assertFalse(set(re.findall(r"\w+", node.value)) & BARRED_WORDS, (path, node.value))


class Imports(unittest.TestCase):
    def test_from_the_defining_file(self):
        defined = {
            "partsmet." + path.stem: [getattr(node, "name", None) for node in tree.body]
            + [node.targets[0].id for node in tree.body if isinstance(node, ast.Assign)]
            for path, tree in trees()
        }
        for path, tree in trees():
            names = [name for _, name in imported(tree)]
            self.assertEqual(len(names), len(set(names)), path)
            for module, name in imported(tree):
                self.assertIn(name, defined[module], path)

    def test_no_circles(self):
        needs = {"partsmet." + path.stem: {module for module, _ in imported(tree)} for path, tree in trees()}
        while needs:
            done = [name for name, wanted in needs.items() if not wanted & set(needs)]
            self.assertTrue(done, needs)
            needs = {name: wanted for name, wanted in needs.items() if name not in done}

    def test_at_the_top_and_used(self):
        for path, tree in trees():
            rest = [node for node in tree.body if not isinstance(node, ast.ImportFrom)]
            if rest and ast.get_docstring(tree):
                rest = rest[1:]
            first = min([node.lineno for node in rest], default=0)
            used = {node.id for node in ast.walk(tree) if isinstance(node, ast.Name)}
            for node in ast.walk(tree):
                self.assertNotIsInstance(node, ast.Import, path)
                if isinstance(node, ast.ImportFrom):
                    self.assertLess(node.lineno, first, path)
                    self.assertTrue(all(alias.asname is None and alias.name in used for alias in node.names), path)


class Names(unittest.TestCase):
    def test_no_name_twice(self):
        for path, tree in trees():
            top = [name for _, name in imported(tree)]
            top += [node.name for node in tree.body if isinstance(node, (ast.FunctionDef, ast.ClassDef))]
            top += [node.targets[0].id for node in tree.body if isinstance(node, ast.Assign)]
            self.assertEqual(len(top), len(set(top)), path)
            inner = [
                name
                for node in ast.walk(tree)
                if isinstance(node, ast.FunctionDef)
                for name in bound(ast.Module(body=[node], type_ignores=[]))
                if name != node.name
            ]
            self.assertFalse(set(inner) & set(top), path)

    def test_no_builtins_and_barred_names(self):
        for path, tree in trees():
            for name in bound(tree):
                # What is shown last, as by doctest, stands among the builtins as "_".
                if name != "_" and name not in SPECIAL_METHODS:
                    self.assertFalse(hasattr(builtins, name), (path, name))
                    self.assertRegex(name, r"^_?[A-Za-z][A-Za-z0-9_]*$")
                self.assertNotIn(name, BARRED_NAMES | BARRED_WORDS, path)
            read = [node.id for node in ast.walk(tree) if isinstance(node, ast.Name) and isinstance(node.ctx, ast.Load)]
            self.assertNotIn("_", read, path)

    def test_builtins_and_methods_that_are_read(self):
        for path, tree in trees():
            known = set(bound(tree)) | {name for _, name in imported(tree)} | BUILTINS | set(OVER_METHODS)
            for node in ast.walk(tree):
                if isinstance(node, ast.Name):
                    self.assertIn(node.id, known, (path, node.lineno))
                if isinstance(node, ast.Call) and isinstance(node.func, ast.Attribute):
                    self.assertIn(node.func.attr, METHODS | methods(), (path, node.lineno))


class Statements(unittest.TestCase):
    def test_nodes(self):
        for path, tree in trees():
            for node in ast.walk(tree):
                self.assertIsInstance(node, NODES, (path, getattr(node, "lineno", 0)))
                for decorator in getattr(node, "decorator_list", []):
                    self.assertIn(getattr(decorator, "id", None), OVER_METHODS, path)
                if isinstance(node, ast.Constant):
                    self.assertNotIsInstance(node.value, (float, complex, bytes), path)
                if isinstance(node, ast.FunctionDef):
                    self.assertIsNone(node.returns, path)

    def test_module_level(self):
        wanted = (ast.Expr, ast.ImportFrom, ast.FunctionDef, ast.ClassDef, ast.Assign)
        for path, tree in trees():
            for node in tree.body:
                self.assertIsInstance(node, wanted, (path, node.lineno))
                if isinstance(node, ast.Expr):
                    self.assertIsInstance(node.value, ast.Constant, path)
                if isinstance(node, ast.Assign):
                    ast.literal_eval(node.value)

    def test_dicts_at_module_level_are_only_read(self):
        """They stand in front of an index or a method, behind "in", or in the head of a loop."""
        tables = {
            node.targets[0].id
            for _, tree in trees()
            for node in tree.body
            if isinstance(node, ast.Assign) and isinstance(node.value, (ast.Dict, ast.List))
        }
        self.assertTrue(tables)
        for path, tree in trees():
            right = []
            for node in ast.walk(tree):
                if isinstance(node, (ast.Subscript, ast.Attribute)):
                    right.append(node.value)
                if isinstance(node, ast.Compare):
                    right += node.comparators
                if isinstance(node, (ast.For, ast.comprehension)):
                    right.append(node.iter)
            for node in ast.walk(tree):
                if isinstance(node, ast.Name) and isinstance(node.ctx, ast.Load) and node.id in tables:
                    self.assertIn(node, right, (path, node.lineno))

    def test_objects(self):
        """Classes with an index have a refusing __iter__; an __exit__ only gives attributes other attributes."""
        for path, tree in trees():
            for node in [node for node in tree.body if isinstance(node, ast.ClassDef)]:
                inner = {each.name: each for each in node.body if isinstance(each, ast.FunctionDef)}
                self.assertEqual(len(inner), len([each for each in node.body if isinstance(each, ast.FunctionDef)]))
                if "__getitem__" in inner:
                    self.assertIsInstance(inner["__iter__"].body[-1], ast.Raise)
                if "__len__" in inner:
                    self.assertEqual(inner["__len__"].body[-1].value.func.id, "len", path)
                for row in inner["__exit__"].body if "__exit__" in inner else []:
                    self.assertIsInstance(row, ast.Assign, path)
                    self.assertIsInstance(row.value, ast.Attribute, path)
                assigned = {each.attr for each in ast.walk(node)
                            if isinstance(each, ast.Attribute) and isinstance(each.ctx, ast.Store)}
                self.assertFalse(assigned & set(inner), path)

    def test_iterated_at_once(self):
        """Generator expressions stand alone in a call that goes through them; sets in sorted or len."""
        for path, tree in trees():
            calls = [node for node in ast.walk(tree) if isinstance(node, ast.Call) and isinstance(node.func, ast.Name)]
            eager = [node.args[0] for node in calls if node.func.id in EAGER and len(node.args) == 1]
            sorts = [node.args[0] for node in calls if node.func.id in ("sorted", "len") and len(node.args) == 1]
            for node in ast.walk(tree):
                if isinstance(node, ast.GeneratorExp):
                    self.assertIn(node, eager, (path, node.lineno))
                if node in calls and node.func.id == "set":
                    self.assertIn(node, sorts, (path, node.lineno))

    def test_kept_ranges(self):
        """A range that is kept is not read in a generator expression."""
        for path, tree in trees():
            for function in [node for node in ast.walk(tree) if isinstance(node, ast.FunctionDef)]:
                kept = [
                    node.targets[0].id
                    for node in ast.walk(function)
                    if isinstance(node, ast.Assign)
                    and isinstance(node.value, ast.Call)
                    and getattr(node.value.func, "id", "") == "range"
                ]
                for inner in [node for node in ast.walk(function) if isinstance(node, ast.GeneratorExp)]:
                    read = {node.id for node in ast.walk(inner) if isinstance(node, ast.Name)}
                    self.assertFalse(read & set(kept), (path, inner.lineno))


if __name__ == "__main__":
    unittest.main()
