"""The rules of the language that can be seen in the files of the package; not all of them can."""

import ast
import builtins
import unittest
from pathlib import Path

ROOT = Path(__file__).resolve().parent.parent
PACKAGE = ROOT / "askedapart"
BUILTINS = set("""len range enumerate zip min max sum abs sorted reversed int str bool list tuple dict set isinstance ord
    repr any all divmod map iter next property ValueError TypeError KeyError IndexError LookupError ZeroDivisionError
    ArithmeticError OverflowError RuntimeError NotImplementedError Exception NotImplemented""".split())
METHODS = set("""append clear copy count endswith extend find get index insert items join keys partition pop remove
    replace reverse rfind setdefault split splitlines startswith strip update upper lower values zfill isdigit
    bit_length""".split())
DOUBLE = ("__init__", "__eq__", "__repr__", "__str__", "__len__")
WORDS = set("""typing enum Enum Generic Protocol ABC namedtuple NamedTuple dataclass overload abstractmethod register
    mro elements open input law eval exec globals locals vars dir id type hash""".split())
BARRED = (ast.GeneratorExp, ast.Global, ast.AsyncFunctionDef, ast.Await, ast.Div)
OUTSIDE = {"heapq", "math", "itertools", "collections"}
COMPREHENSIONS = (ast.ListComp, ast.SetComp, ast.DictComp)


def modules():
    """The path and the tree of each file of the package."""
    return [(path, ast.parse(path.read_text())) for path in sorted(PACKAGE.rglob("*.py"))]


def defined(tree):
    """All names that a module binds itself at its top."""
    found = [node.name for node in tree.body if isinstance(node, (ast.FunctionDef, ast.ClassDef))]
    return found + [node.targets[0].id for node in tree.body if isinstance(node, ast.Assign)]


def imported(tree):
    """All names that a module imports."""
    return [name.name for node in tree.body if isinstance(node, ast.ImportFrom) for name in node.names]


def bound_inside(tree):
    """All names that are bound within functions: parameters, targets."""
    found = {node.arg for node in ast.walk(tree) if isinstance(node, ast.arg)}
    tops = [node for node in tree.body if isinstance(node, (ast.FunctionDef, ast.ClassDef))]
    return found | {node.id for top in tops for node in ast.walk(top)
                    if isinstance(node, ast.Name) and isinstance(node.ctx, ast.Store)}


def assigned(tree, left=()):
    """All names that a part of a function binds, but for those of the parts that are left out."""
    names = [node for node in ast.walk(tree) if isinstance(node, (ast.Name, ast.arg))]
    inner = {id(node) for part in left for node in ast.walk(part)}
    found = {node.arg for node in names if isinstance(node, ast.arg)}
    return found | {node.id for node in names if isinstance(node, ast.Name) and isinstance(node.ctx, ast.Store)
                    and id(node) not in inner}


class Files(unittest.TestCase):
    def test_the_folder_holds_nothing_else(self):
        for path in PACKAGE.rglob("*"):
            if "__pycache__" in path.parts:
                continue
            if path.is_dir():
                self.assertTrue((path / "__init__.py").is_file(), path)
                self.assertFalse(path.with_suffix(".py").exists(), path)
            else:
                self.assertEqual(path.suffix, ".py")
            self.assertRegex(path.stem, "^[a-z0-9_]+$")

    def test_sizes_and_characters(self):
        for path, tree in modules():
            text = path.read_text()
            self.assertTrue(all(" " <= sign <= "~" or sign == "\n" for sign in text), path)
            lines = text.split("\n")
            self.assertLessEqual(len(lines), 399, path)
            self.assertLessEqual(max(len(line) for line in lines), 120, path)
            for node in ast.walk(tree):
                if isinstance(node, ast.FunctionDef):
                    self.assertLessEqual(node.end_lineno - node.lineno + 1, 40, (path, node.name))

    def test_docstrings(self):
        for path, tree in modules():
            self.assertTrue(ast.get_docstring(tree), path)


class Names(unittest.TestCase):
    def test_imports(self):
        tops = {path: defined(tree) for path, tree in modules()}
        for path, tree in modules():
            for node in ast.walk(tree):
                self.assertNotIsInstance(node, ast.Import, path)
                if not isinstance(node, ast.ImportFrom) or node.module in OUTSIDE:
                    continue
                self.assertIn(node, tree.body)
                self.assertEqual((node.level, node.module.split(".")[0]), (0, "askedapart"))
                target = ROOT / (node.module.replace(".", "/") + ".py")
                for name in node.names:
                    self.assertIsNone(name.asname)
                    self.assertIn(name.name, tops[target], path)

    def test_what_is_imported_is_used(self):
        for path, tree in modules():
            used = {node.id for node in ast.walk(tree) if isinstance(node, ast.Name)}
            self.assertEqual([name for name in imported(tree) if name not in used], [], path)

    def test_one_binding_for_each_name(self):
        for path, tree in modules():
            names = defined(tree) + imported(tree)
            self.assertEqual(len(names), len(set(names)), path)
            classes = [node.name for node in tree.body if isinstance(node, ast.ClassDef)]
            self.assertEqual(bound_inside(tree) & set(classes + imported(tree)), set(), path)
            self.assertEqual((bound_inside(tree) | set(names)) & set(dir(builtins)), set(), path)

    def test_builtins_and_words(self):
        for path, tree in modules():
            for node in ast.walk(tree):
                if isinstance(node, ast.Name):
                    self.assertNotIn(node.id, WORDS, path)
                    if node.id in dir(builtins):
                        self.assertIn(node.id, BUILTINS, path)
                if isinstance(node, (ast.FunctionDef, ast.ClassDef)):
                    self.assertNotIn(node.name, WORDS, path)
                    self.assertTrue(not node.name.startswith("__") or node.name in DOUBLE, node.name)

    def test_methods(self):
        own = {node.name for _, tree in modules() for node in ast.walk(tree) if isinstance(node, ast.FunctionDef)}
        for path, tree in modules():
            for node in ast.walk(tree):
                if isinstance(node, ast.Call) and isinstance(node.func, ast.Attribute):
                    self.assertIn(node.func.attr, METHODS | own, path)


class Code(unittest.TestCase):
    def with_functions_named(self, value, tree):
        """The value, a dict's functions of the same file being told by their names."""
        own = [node.name for node in tree.body if isinstance(node, ast.FunctionDef) and node.lineno < value.lineno]
        for at, one in enumerate(value.values if isinstance(value, ast.Dict) else ()):
            if isinstance(one, ast.Name) and one.id in own:
                value.values[at] = ast.Constant(one.id)
        return value

    def test_module_level(self):
        for path, tree in modules():
            for at, node in enumerate(tree.body):
                if isinstance(node, ast.Expr):
                    self.assertEqual(at, 0)
                elif isinstance(node, ast.Assign):
                    self.assertEqual(len(node.targets), 1)
                    ast.literal_eval(self.with_functions_named(node.value, tree))
                else:
                    self.assertIsInstance(node, (ast.ImportFrom, ast.FunctionDef, ast.ClassDef), path)

    def test_barred_nodes(self):
        for path, tree in modules():
            for node in ast.walk(tree):
                self.assertNotIsInstance(node, BARRED, path)
                if isinstance(node, ast.Constant):
                    self.assertNotIsInstance(node.value, float)
                    self.assertFalse(isinstance(node.value, str) and "%" in node.value, path)
                if isinstance(node, ast.BinOp) and isinstance(node.op, ast.Pow):
                    self.assertIsInstance(node.right, ast.Constant)
                if isinstance(node, ast.FunctionDef):
                    self.assertTrue(all(isinstance(one, ast.Name) and one.id == "property"
                                        for one in node.decorator_list), path)

    def test_ranges_and_their_kin_are_iterated_at_once(self):
        taking = ("list", "tuple", "dict", "sorted", "sum", "any", "all", "enumerate", "zip", "min", "max", "len")
        for path, tree in modules():
            allowed = set()
            for node in ast.walk(tree):
                if isinstance(node, (ast.For, ast.comprehension)):
                    allowed.add(id(node.iter))
                if isinstance(node, ast.Call) and isinstance(node.func, ast.Name) and node.func.id in taking:
                    allowed |= {id(one) for one in node.args}
                if isinstance(node, ast.Assign) and isinstance(node.targets[0], ast.Name):
                    if isinstance(node.value, ast.Call) and getattr(node.value.func, "id", "") == "range":
                        allowed.add(id(node.value))
            for node in ast.walk(tree):
                if isinstance(node, ast.Call):
                    name = getattr(node.func, "id", getattr(node.func, "attr", ""))
                    if name in ("range", "zip", "enumerate", "reversed", "items", "keys", "values"):
                        self.assertIn(id(node), allowed, (path, node.lineno))

    def test_names_in_inner_comprehensions(self):
        for path, tree in modules():
            for node in [node for node in ast.walk(tree) if isinstance(node, ast.FunctionDef)]:
                outer = [one for one in ast.walk(node) if isinstance(one, COMPREHENSIONS)]
                for one in outer:
                    within = [more for more in ast.walk(one) if isinstance(more, COMPREHENSIONS) and more is not one]
                    for more in within:
                        self.assertEqual(assigned(more) & (assigned(node, outer) | assigned(one, within)), set(), path)

    def test_sets_are_only_measured_sorted_or_asked(self):
        for path, tree in modules():
            allowed = set()
            for node in ast.walk(tree):
                if isinstance(node, ast.Call) and isinstance(node.func, ast.Name) and node.func.id in ("len", "sorted"):
                    allowed |= {id(one) for one in node.args}
                if isinstance(node, ast.Compare):
                    allowed |= {id(one) for one in node.comparators}
            for node in ast.walk(tree):
                made = isinstance(node, ast.Call) and isinstance(node.func, ast.Name) and node.func.id == "set"
                if made or isinstance(node, (ast.Set, ast.SetComp)):
                    self.assertIn(id(node), allowed, path)


if __name__ == "__main__":
    unittest.main()
