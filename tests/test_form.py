"""The form of the package: its files, its imports, its names, and the part of Python that it keeps to."""

import ast
import builtins
import pathlib
import re
import unittest

PACKAGE = pathlib.Path(__file__).resolve().parent.parent / "drillrounds"

BUILT_IN = set("""len range enumerate zip min max sum abs sorted reversed int str bool list tuple dict set frozenset
    isinstance ord repr any all divmod Exception ValueError TypeError KeyError IndexError LookupError
    ZeroDivisionError ArithmeticError OverflowError RuntimeError NotImplementedError AttributeError
    StopIteration""".split())
METHODS = set("""append clear copy count endswith extend find get index insert isalnum isalpha isdigit islower isspace
    isupper items join keys ljust lower lstrip partition pop remove replace reverse rfind rjust rpartition rsplit
    rstrip setdefault split splitlines startswith strip update upper values zfill bit_length""".split())
WALKED = {"zip", "enumerate", "reversed", "range"}
WALKERS = {"list", "tuple", "dict", "sorted", "sum", "any", "all", "enumerate", "zip", "min", "max"}
KEYWORDS = {"sorted": {"key", "reverse"}, "min": {"key", "default"}, "max": {"key", "default"},
            "sum": {"start"}, "enumerate": {"start"}, "zip": {"strict"}}
WORDS = ("type typing typing_extensions enum Enum IntEnum StrEnum Flag IntFlag Generic Protocol ABC ABCMeta namedtuple "
         "NamedTuple TypedDict TYPE_CHECKING abstractmethod").split()
NOT_USED = set("register mro elements open input version_info with_traceback add_note format format_map".split())
TOP = (ast.Expr, ast.ImportFrom, ast.FunctionDef, ast.ClassDef, ast.Assign)
OUT = (ast.Import, ast.With, ast.Match, ast.Delete, ast.Global, ast.Nonlocal, ast.Assert, ast.Yield, ast.YieldFrom,
       ast.AsyncFunctionDef, ast.AsyncFor, ast.AsyncWith, ast.Await, ast.SetComp, ast.DictComp, ast.GeneratorExp,
       ast.NamedExpr, ast.Starred, ast.Div, ast.MatMult, ast.Set, ast.AnnAssign, ast.TryStar)


def is_plain(node):
    """A value that may stand at a file's top; a name is judged by what it stands for."""
    if isinstance(node, (ast.List, ast.Tuple)):
        return all(map(is_plain, node.elts))
    if isinstance(node, ast.Dict):
        return all(map(is_plain, [*node.keys, *node.values]))
    if isinstance(node, ast.UnaryOp):
        return isinstance(node.op, ast.USub) and isinstance(node.operand, ast.Constant)
    return isinstance(node, (ast.Constant, ast.Name))


def called_name(node):
    return node.func.id if isinstance(node, ast.Call) and isinstance(node.func, ast.Name) else None


class Form(unittest.TestCase):
    def setUp(self):
        self.files = sorted(PACKAGE.glob("*.py"))
        self.texts = [path.read_text(encoding="utf-8") for path in self.files]
        self.trees = [ast.parse(text) for text in self.texts]

    def nodes(self, *kinds):
        return [node for tree in self.trees for node in ast.walk(tree) if isinstance(node, kinds)]

    def bound_at_top(self, tree):
        names = [node.name for node in tree.body if isinstance(node, (ast.FunctionDef, ast.ClassDef))]
        return names + [node.targets[0].id for node in tree.body if isinstance(node, ast.Assign)]

    def imported(self, tree):
        return [name.name for node in tree.body if isinstance(node, ast.ImportFrom) for name in node.names]


class Files(Form):
    def test_it_lies_at_the_top(self):
        names = [path.name for path in self.files]
        self.assertIn("__init__.py", names)
        self.assertIn("board.py", names)

    def test_nothing_else_lies_in_it(self):
        others = [path.name for path in PACKAGE.iterdir() if path not in self.files and path.name != "__pycache__"]
        self.assertEqual(others, [])
        for path in self.files:
            self.assertRegex(path.stem, r"^(__init__|[a-z][a-z0-9_]*)$")
            self.assertTrue(path.stem == "__init__" or not hasattr(builtins, path.stem), path)

    def test_sizes_and_signs(self):
        for path, text in zip(self.files, self.texts):
            lines = text.split("\n")
            self.assertLessEqual(len(lines), 400, path)
            self.assertLessEqual(max(len(line) for line in lines), 120, path)
            self.assertTrue(all(" " <= sign <= "~" or sign == "\n" for sign in text), path)
        for node in self.nodes(ast.FunctionDef):
            self.assertLessEqual(node.end_lineno - node.lineno + 1, 40, node.name)

    def test_words_that_stand_nowhere(self):
        for path, text in zip(self.files, self.texts):
            self.assertEqual([word for word in WORDS if re.search(rf"\b{word}\b", text)], [], path)
            self.assertIsNone(re.search("dataclass|overload|contextmanager", text), path)


class Imports(Form):
    def test_nothing_is_imported_but_its_own(self):
        defined = {path.stem: self.bound_at_top(tree) for path, tree in zip(self.files, self.trees)}
        for node in self.nodes(ast.ImportFrom):
            self.assertEqual(node.level, 0)
            package, stem = node.module.split(".")
            self.assertEqual(package, "drillrounds")
            for name in node.names:
                self.assertIn(name.name, defined[stem])
                self.assertIsNone(name.asname)

    def test_what_is_imported_is_used(self):
        for path, tree in zip(self.files, self.trees):
            used = {node.id for node in ast.walk(tree) if isinstance(node, ast.Name)}
            self.assertEqual([name for name in self.imported(tree) if name not in used], [], path)

    def test_no_two_draw_from_one_another(self):
        left = {path.stem: {node.module.split(".")[1] for node in tree.body if isinstance(node, ast.ImportFrom)}
                for path, tree in zip(self.files, self.trees)}
        while left:
            free = [stem for stem, drawn in left.items() if not drawn & set(left)]
            self.assertNotEqual(free, [], left)
            for stem in free:
                del left[stem]


class PartOfPython(Form):
    def test_the_top_of_a_file(self):
        for path, tree in zip(self.files, self.trees):
            for node in tree.body:
                self.assertIsInstance(node, TOP, path)
                if isinstance(node, ast.Assign):
                    self.assertTrue(is_plain(node.value), ast.unparse(node))
            names = self.bound_at_top(tree) + self.imported(tree)
            self.assertEqual(len(names), len(set(names)), path)

    def test_what_is_out(self):
        self.assertEqual([ast.unparse(node) for node in self.nodes(*OUT)], [])
        self.assertEqual([node for node in self.nodes(ast.For, ast.While) if node.orelse], [])
        self.assertEqual([node for node in self.nodes(ast.Try) if node.finalbody], [])
        for node in self.nodes(ast.Assign):
            self.assertEqual(len(node.targets), 1)
            self.assertNotIsInstance(node.targets[0], (ast.Tuple, ast.List), ast.unparse(node))
        for node in self.nodes(ast.ListComp):
            self.assertEqual(len(node.generators), 1)
            self.assertLessEqual(len(node.generators[0].ifs), 1)

    def test_parameters(self):
        for node in self.nodes(ast.FunctionDef):
            given = node.args
            self.assertFalse(given.vararg or given.kwarg or given.kwonlyargs or given.posonlyargs, node.name)
            self.assertEqual(node.decorator_list, [], node.name)

    def test_values(self):
        for node in self.nodes(ast.Constant):
            self.assertNotIsInstance(node.value, (float, complex, bytes))
            if isinstance(node.value, str):
                self.assertNotIn("%", node.value)
        for node in self.nodes(ast.FormattedValue):
            self.assertIsInstance(node.value, ast.Name)
            self.assertIsNone(node.format_spec)
        for node in self.nodes(ast.Compare):
            for operator, other in zip(node.ops, node.comparators):
                if isinstance(operator, (ast.Is, ast.IsNot)):
                    self.assertIn(ast.unparse(other), ("None", "True", "False"))


class Names(Form):
    def test_pythons_own(self):
        used = {node.id for node in self.nodes(ast.Name) if isinstance(node.ctx, ast.Load)}
        self.assertEqual([name for name in used if hasattr(builtins, name) and name not in BUILT_IN], [])

    def test_none_is_given_another_meaning(self):
        for path, tree in zip(self.files, self.trees):
            classes = [node.name for node in tree.body if isinstance(node, ast.ClassDef)]
            taken = set(dir(builtins)) | set(self.imported(tree)) | set(classes)
            nodes = list(ast.walk(tree))
            bound = [node.arg for node in nodes if isinstance(node, ast.arg)]
            bound += [node.id for node in nodes if isinstance(node, ast.Name) and isinstance(node.ctx, ast.Store)]
            bound += [node.name for node in nodes if isinstance(node, ast.FunctionDef) and node.name != "__init__"]
            self.assertEqual([name for name in bound if name in taken], [], path)
            self.assertEqual([name for name in bound if name.startswith("_") or name in NOT_USED], [], path)

    def test_methods_and_values(self):
        own = {method.name for node in self.nodes(ast.ClassDef) for method in node.body
               if isinstance(method, ast.FunctionDef)}
        stored = {node.attr for node in self.nodes(ast.Attribute) if isinstance(node.ctx, ast.Store)}
        called = {node.func.attr for node in self.nodes(ast.Call) if isinstance(node.func, ast.Attribute)}
        self.assertEqual(called - METHODS - own, set())
        self.assertEqual(own & stored, set())
        taken = {name for kind in (str, int, list, dict, set, bytes, tuple) for name in dir(kind)}
        self.assertEqual((stored | own - {"__init__"}) & taken, set())
        self.assertEqual((stored | own | called) & NOT_USED, set())

    def test_keywords(self):
        for node in self.nodes(ast.Call):
            given = {keyword.arg for keyword in node.keywords}
            self.assertLessEqual(given, KEYWORDS.get(called_name(node), set()), ast.unparse(node))

    def test_walked_on_the_spot(self):
        walked = [node.iter for node in self.nodes(ast.For, ast.comprehension)]
        walked += [node.args[0] for node in self.nodes(ast.Call) if called_name(node) in WALKERS and node.args]
        for node in self.nodes(ast.Call):
            if called_name(node) in WALKED:
                self.assertIn(node, walked, ast.unparse(node))

    def test_sets_are_not_kept(self):
        fine = [node.args[0] for node in self.nodes(ast.Call) if called_name(node) in ("sorted", "len") and node.args]
        for node in self.nodes(ast.Call):
            if called_name(node) == "set":
                self.assertIn(node, fine, ast.unparse(node))


if __name__ == "__main__":
    unittest.main()
