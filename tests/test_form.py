"""The form that the package's files keep to, as far as it can be read off them."""

import ast
import builtins
import pathlib
import re
import unittest

PACKAGE = pathlib.Path(__file__).resolve().parent.parent / "coilticks"
FILES = sorted(PACKAGE.rglob("*.py"))

OWN_CALLS = """len range enumerate zip min max sum abs sorted reversed int str bool list tuple dict set frozenset
isinstance ord repr any all divmod""".split()
ERRORS = """Exception ValueError TypeError KeyError IndexError LookupError ZeroDivisionError ArithmeticError
OverflowError RuntimeError NotImplementedError AttributeError StopIteration""".split()
METHODS = """append clear copy count endswith extend find get index insert isalnum isalpha isdigit islower isspace
isupper items join keys ljust lower lstrip partition pop remove replace reverse rfind rjust rpartition rsplit rstrip
setdefault split splitlines startswith strip update upper values zfill bit_length""".split()
BARRED_WORDS = """type typing typing_extensions enum Enum IntEnum StrEnum Flag IntFlag Generic Protocol ABC ABCMeta
namedtuple NamedTuple TypedDict TYPE_CHECKING abstractmethod""".split()
BARRED_NODES = (
    ast.With, ast.Match, ast.Delete, ast.Global, ast.Nonlocal, ast.Assert, ast.AsyncFunctionDef, ast.AsyncFor,
    ast.AsyncWith, ast.Yield, ast.YieldFrom, ast.Await, ast.SetComp, ast.DictComp, ast.GeneratorExp, ast.NamedExpr,
    ast.Starred, ast.Div, ast.Import, ast.AnnAssign, ast.Lambda, ast.Set, ast.Pow, ast.JoinedStr)
TOP_NODES = (ast.ImportFrom, ast.FunctionDef, ast.ClassDef, ast.Assign)


def trees():
    return [(path, ast.parse(path.read_text("utf-8"))) for path in FILES]


def nodes(kind):
    return [(path, node) for path, tree in trees() for node in ast.walk(tree) if isinstance(node, kind)]


class Form(unittest.TestCase):
    def test_files(self):
        found = [path for path in PACKAGE.rglob("*") if "__pycache__" not in path.parts]
        self.assertEqual(sorted(found), FILES)
        self.assertIn(PACKAGE / "__init__.py", FILES)
        for path in FILES:
            self.assertRegex(path.name, r"^([a-z][a-z0-9_]*|__init__)\.py$")
            self.assertNotIn(path.stem, [name for name in dir(builtins) if not name.startswith("_")])

    def test_signs_and_sizes(self):
        for path in FILES:
            rows = path.read_text("utf-8").split("\n")
            self.assertLessEqual(len(rows), 401, path)
            for row in rows:
                self.assertRegex(row, r"^[ -~]{0,120}$", path)

    def test_words_that_stand_nowhere(self):
        for path in FILES:
            text = path.read_text("utf-8")
            self.assertEqual([word for word in BARRED_WORDS if re.search(rf"\b{word}\b", text)], [], path)
            self.assertNotRegex(text, r"dataclass|overload|contextmanager|\bchr\b|\bprint\b")

    def test_tops_of_files(self):
        for path, tree in trees():
            self.assertIsNotNone(ast.get_docstring(tree), path)
            bound = []
            for node in tree.body[1:]:
                self.assertIsInstance(node, TOP_NODES, path)
                if isinstance(node, ast.Assign):
                    ast.literal_eval(node.value)
                    bound += [target.id for target in node.targets]
                elif isinstance(node, ast.ImportFrom):
                    self.assertTrue(node.module.startswith("coilticks.") and node.level == 0, path)
                    bound += [alias.name for alias in node.names]
                else:
                    bound.append(node.name)
            self.assertEqual(len(bound), len(set(bound)), path)

    def test_imports_run_one_way_and_name_where_a_name_is_defined(self):
        draws = {path.stem: [] for path in FILES}
        defined = {path.stem: path.read_text("utf-8") for path in FILES}
        for path, node in nodes(ast.ImportFrom):
            source = node.module.split(".")[1]
            draws[path.stem].append(source)
            for alias in node.names:
                self.assertRegex(defined[source], rf"(?m)^(def |class )?{alias.name}\b")
                self.assertIsNone(alias.asname)
        while draws:
            ready = [stem for stem in draws if not [source for source in draws[stem] if source in draws]]
            self.assertTrue(ready, draws)
            draws = {stem: draws[stem] for stem in draws if stem not in ready}

    def test_nodes(self):
        self.assertEqual([(path.name, node) for path, node in nodes(BARRED_NODES)], [])
        for path, node in nodes((ast.For, ast.While)):
            self.assertEqual(node.orelse, [], path)
        for path, node in nodes(ast.Assign):
            self.assertEqual(len(node.targets), 1, path)
            self.assertNotIsInstance(node.targets[0], (ast.Tuple, ast.List), path)
        for path, node in nodes(ast.Try):
            self.assertEqual(node.finalbody, [], path)
        for path, node in nodes(ast.Constant):
            self.assertIsInstance(node.value, (int, str, type(None)), path)
            self.assertNotIn("%", str(node.value), path)

    def test_functions(self):
        for path, node in nodes(ast.FunctionDef):
            self.assertLessEqual(node.end_lineno - node.lineno + 1, 40, node.name)
            self.assertEqual(node.decorator_list, [], node.name)
            self.assertIsNone(node.args.vararg or node.args.kwarg or node.returns, node.name)
            self.assertEqual(node.args.kwonlyargs + node.args.posonlyargs, [], node.name)
        for path, node in nodes(ast.ClassDef):
            self.assertEqual(node.decorator_list, [], node.name)
            self.assertLessEqual(len(node.bases), 1, node.name)

    def test_names(self):
        barred = [name for name in dir(builtins) if name not in OWN_CALLS + ERRORS + ["None", "True", "False"]]
        for path, node in nodes(ast.Name):
            self.assertNotIn(node.id, barred, path)
            self.assertFalse(node.id.startswith("_"), path)
            if isinstance(node.ctx, ast.Store):
                self.assertFalse(hasattr(builtins, node.id), node.id)
        for path, node in nodes(ast.arg):
            self.assertFalse(hasattr(builtins, node.arg) or node.arg.startswith("_"), node.arg)

    def test_methods_and_values_of_objects(self):
        methods, values = set(), set()
        for path, node in nodes(ast.ClassDef):
            methods |= {part.name for part in node.body if isinstance(part, ast.FunctionDef)}
        for path, node in nodes(ast.Attribute):
            if isinstance(node.ctx, ast.Store):
                values.add(node.attr)
        self.assertEqual(methods & values, set())
        own = {name for kind in (str, int, list, dict, set, bytes) for name in dir(kind)} - {"__init__"}
        self.assertEqual((methods | values) & own, set())
        used = {node.attr for path, node in nodes(ast.Attribute)}
        self.assertEqual(used - methods - values - set(METHODS) - {"__init__"}, set())


if __name__ == "__main__":
    unittest.main()
