"""The package keeps to the small part of Python that the program is written in."""

import ast
import builtins
import pathlib
import re
import unittest

PACKAGE = pathlib.Path(__file__).resolve().parent.parent / "weakenings"
STATEMENTS = (
    ast.Assign, ast.AugAssign, ast.If, ast.While, ast.For, ast.Return, ast.Break, ast.Continue, ast.Pass, ast.Raise,
    ast.Try, ast.Expr, ast.FunctionDef, ast.ClassDef, ast.ImportFrom,
)
NOT_USED = (
    ast.Set, ast.SetComp, ast.DictComp, ast.GeneratorExp, ast.NamedExpr, ast.Starred, ast.Div, ast.Await, ast.Yield,
    ast.YieldFrom, ast.MatMult,
)
BUILT_IN = set(
    "len range enumerate zip min max sum abs sorted reversed int str bool list tuple dict set frozenset isinstance ord"
    " repr any all divmod Exception ValueError KeyError IndexError LookupError ZeroDivisionError".split()
)
METHODS = set(
    "append clear copy count endswith extend find get index insert isalnum isalpha isdigit islower isspace isupper"
    " items join keys ljust lower lstrip partition pop remove replace reverse rfind rjust rpartition rsplit rstrip"
    " setdefault split splitlines startswith strip update upper values zfill bit_length".split()
)
WORDS = set(
    "type typing typing_extensions enum Enum IntEnum StrEnum Flag IntFlag Generic Protocol ABC ABCMeta namedtuple"
    " NamedTuple TypedDict TYPE_CHECKING abstractmethod".split()
)


class Files(unittest.TestCase):
    def setUp(self):
        self.texts = {path.name: path.read_text("ascii") for path in sorted(PACKAGE.glob("*.py"))}
        self.trees = {name: ast.parse(text) for name, text in self.texts.items()}

    def nodes(self, *kinds):
        for name, tree in self.trees.items():
            for node in ast.walk(tree):
                if isinstance(node, kinds):
                    yield f"{name}:{getattr(node, 'lineno', 0)}", node

    def test_folder(self):
        names = {path.name for path in PACKAGE.iterdir()} - {"__pycache__"}
        self.assertEqual(names, set(self.texts))
        for name in names:
            self.assertRegex(name, r"^(__init__|[a-z][a-z0-9_]*)\.py$")

    def test_signs_words_and_size(self):
        for name, text in self.texts.items():
            rows = text.split("\n")
            self.assertLessEqual(len(rows), 399, name)
            self.assertLessEqual(max(map(len, rows)), 120, name)
            self.assertRegex(text, r"\A[ -~\n]*\Z", name)
            self.assertFalse(WORDS & set(re.findall(r"\w+", text)), name)
            self.assertNotRegex(text, "dataclass|overload|contextmanager", name)

    def test_functions(self):
        for place, node in self.nodes(ast.FunctionDef):
            self.assertLessEqual(node.end_lineno - node.lineno + 1, 40, place)
            self.assertFalse(node.decorator_list or node.args.vararg or node.args.kwarg or node.args.kwonlyargs, place)

    def test_statements_and_expressions(self):
        for place, node in self.nodes(ast.stmt):
            self.assertIsInstance(node, STATEMENTS, place)
        for place, node in self.nodes(*NOT_USED):
            self.fail(place)
        for place, node in self.nodes(ast.While, ast.For):
            self.assertFalse(node.orelse, place)
        for place, node in self.nodes(ast.Constant):
            self.assertIn(node.value.__class__, (int, str, bool, None.__class__), place)
        for place, node in self.nodes(ast.ListComp):
            self.assertEqual(len(node.generators), 1, place)

    def test_imports(self):
        for place, node in self.nodes(ast.ImportFrom):
            self.assertEqual(node.level, 0, place)
            self.assertTrue(node.module.startswith("weakenings."), place)
            tree = self.trees[node.module.partition(".")[2] + ".py"]
            bound = [target.id for one in tree.body if isinstance(one, ast.Assign) for target in one.targets]
            bound += [one.name for one in tree.body if isinstance(one, (ast.FunctionDef, ast.ClassDef))]
            for alias in node.names:
                self.assertIn(alias.name, bound, place)

    def test_names_and_methods(self):
        own = {node.name for place, node in self.nodes(ast.FunctionDef, ast.ClassDef)}
        own |= {alias.name for place, node in self.nodes(ast.ImportFrom) for alias in node.names}
        own |= {node.id for place, node in self.nodes(ast.Name) if isinstance(node.ctx, ast.Store)}
        own |= {node.arg for place, node in self.nodes(ast.arg)}
        for place, node in self.nodes(ast.Name):
            self.assertIn(node.id, own | BUILT_IN, place)
        for name in own:
            self.assertFalse(name in BUILT_IN or name.startswith("_") and name != "__init__", name)
        for place, node in self.nodes(ast.Call):
            if isinstance(node.func, ast.Attribute):
                self.assertIn(node.func.attr, own | METHODS, place)

    def test_no_name_is_a_method_and_a_value(self):
        methods = {one.name for place, node in self.nodes(ast.ClassDef) for one in node.body
                   if isinstance(one, ast.FunctionDef)}
        values = {node.attr for place, node in self.nodes(ast.Attribute) if isinstance(node.ctx, ast.Store)}
        self.assertFalse(methods & values)

    def test_locals_are_called_like_nothing_else(self):
        for name, tree in self.trees.items():
            top = {target.id for one in tree.body if isinstance(one, ast.Assign) for target in one.targets}
            top |= {one.name for one in tree.body if isinstance(one, (ast.ClassDef, ast.FunctionDef))}
            top |= {alias.name for one in tree.body if isinstance(one, ast.ImportFrom) for alias in one.names}
            for function in ast.walk(tree):
                if isinstance(function, (ast.FunctionDef, ast.Lambda)):
                    inside = {node.id for node in ast.walk(function)
                              if isinstance(node, ast.Name) and isinstance(node.ctx, ast.Store)}
                    inside |= {node.arg for node in ast.walk(function) if isinstance(node, ast.arg)}
                    self.assertFalse(inside & (top | set(dir(builtins))), name)

    def test_methods_are_called_like_none_of_pythons_own(self):
        taken = {name for kind in (str, bytes, int, list, tuple, dict, set) for name in dir(kind)} - {"__init__"}
        for place, node in self.nodes(ast.ClassDef):
            for one in node.body:
                self.assertFalse(isinstance(one, ast.FunctionDef) and one.name in taken, place)

    def test_no_two_files_draw_from_one_another(self):
        drawn = {name: {one.module.partition(".")[2] + ".py" for one in tree.body if isinstance(one, ast.ImportFrom)}
                 for name, tree in self.trees.items()}
        while drawn:
            free = [name for name in drawn if not drawn[name] & set(drawn)]
            self.assertTrue(free, drawn)
            drawn = {name: drawn[name] for name in drawn if name not in free}

    def test_service(self):
        tree = self.trees["service.py"]
        found = [node for node in tree.body if isinstance(node, ast.FunctionDef) and node.name == "answers"]
        self.assertEqual([[arg.arg for arg in node.args.args] for node in found], [["calls"]])
        self.assertFalse(found[0].args.defaults)


if __name__ == "__main__":
    unittest.main()
