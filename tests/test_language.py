"""The package keeps to the part of Python it is written in: what of those rules can be seen in its files."""

import ast
import builtins
import pathlib
import re
import unittest

PACKAGE = pathlib.Path(__file__).resolve().parent.parent / "somewayall"

OWN_NAMES = """len range enumerate zip min max sum abs sorted reversed int str bool list tuple dict set frozenset
    isinstance ord repr any all divmod Exception ValueError TypeError KeyError IndexError LookupError
    ZeroDivisionError ArithmeticError OverflowError RuntimeError NotImplementedError StopIteration""".split()
METHODS = """append clear copy count endswith extend find get index insert isalnum isalpha isdigit islower isspace
    isupper items join keys ljust lower lstrip partition pop remove replace reverse rfind rjust rpartition rsplit
    rstrip setdefault split splitlines startswith strip update upper values zfill bit_length""".split()
STATEMENTS = (ast.Assign, ast.AugAssign, ast.If, ast.While, ast.For, ast.Return, ast.Break, ast.Continue, ast.Pass,
              ast.Raise, ast.Try, ast.Expr, ast.FunctionDef, ast.ClassDef, ast.ImportFrom)
RULED_OUT = (ast.Set, ast.SetComp, ast.DictComp, ast.GeneratorExp, ast.NamedExpr, ast.Starred, ast.Await, ast.Div,
             ast.Yield, ast.YieldFrom, ast.MatMult, ast.Pow, ast.AnnAssign)
WORDS = """type typing typing_extensions enum Enum IntEnum StrEnum Flag IntFlag Generic Protocol ABC ABCMeta namedtuple
    NamedTuple TypedDict TYPE_CHECKING abstractmethod register mro elements open input""".split()
WALKED = ("zip", "enumerate", "reversed", "range")
WALKS = ("list", "tuple", "dict", "sorted", "sum", "any", "all", "enumerate", "zip")


def files():
    return sorted(PACKAGE.rglob("*.py"))


def nodes():
    """Every node of every file: (where, node, the node above it)."""
    for path in files():
        for above in ast.walk(ast.parse(path.read_text())):
            for node in ast.iter_child_nodes(above):
                yield f"{path.name}:{getattr(node, 'lineno', '')}", node, above


def own_methods():
    return [each.name for where, node, above in nodes() if isinstance(node, ast.ClassDef)
            for each in node.body if isinstance(each, ast.FunctionDef)]


class Files(unittest.TestCase):
    def test_only_python_files(self):
        found = [path for path in PACKAGE.rglob("*") if "__pycache__" not in path.parts]
        self.assertEqual(sorted(found), files())
        for path in found:
            self.assertRegex(path.name, r"^(__init__|[a-z][a-z0-9_]*)\.py$")
            self.assertFalse(path.stem in dir(builtins) or path.stem.startswith("test"), path)

    def test_size_and_signs(self):
        for path in files():
            rows = path.read_text().split("\n")
            self.assertLessEqual(len(rows), 400, path)
            for row in rows:
                self.assertLessEqual(len(row), 120, (path, row))
                self.assertRegex(row, r"^[ -~]*$")

    def test_words(self):
        for path in files():
            text = path.read_text()
            for word in WORDS:
                self.assertIsNone(re.search(rf"\b{word}\b", text), (path, word))
            self.assertIsNone(re.search("dataclass|overload|contextmanager", text), path)


class Tops(unittest.TestCase):
    def test_imports_are_of_the_very_file_and_without_a_ring(self):
        draws = {}
        for path in files():
            draws[f"somewayall.{path.stem}"] = []
            for node in ast.parse(path.read_text()).body:
                if isinstance(node, ast.ImportFrom):
                    draws[f"somewayall.{path.stem}"].append(node.module)
                    source = ast.parse((PACKAGE / (node.module.split(".")[1] + ".py")).read_text())
                    for name in node.names:
                        self.assertIn(name.name, tops(source))
                        self.assertIsNone(name.asname)
        while draws:
            free = [name for name in draws if not any(each in draws for each in draws[name])]
            self.assertTrue(free, draws)
            for name in free:
                draws.pop(name)

    def test_only_what_may_stand_there_and_each_name_once(self):
        for path in files():
            tree = ast.parse(path.read_text())
            for node in tree.body[1:]:
                self.assertIsInstance(node, (ast.ImportFrom, ast.FunctionDef, ast.ClassDef, ast.Assign))
                if isinstance(node, ast.Assign):
                    self.assertIn(type(ast.literal_eval(node.value)), (int, str, tuple))
            self.assertEqual(len(tops(tree)), len(set(tops(tree))), path)


def tops(tree):
    names = [node.name for node in tree.body if isinstance(node, (ast.FunctionDef, ast.ClassDef))]
    return names + [node.targets[0].id for node in tree.body if isinstance(node, ast.Assign)]


class Forms(unittest.TestCase):
    def test_statements(self):
        for where, node, above in nodes():
            if isinstance(node, ast.stmt):
                self.assertIsInstance(node, STATEMENTS, where)
            if isinstance(node, (ast.For, ast.While)):
                self.assertEqual(node.orelse, [], where)
            if isinstance(node, ast.Assign):
                self.assertEqual(len(node.targets), 1, where)
                self.assertNotIsInstance(node.targets[0], ast.Tuple, where)
            if isinstance(node, ast.ImportFrom):
                self.assertEqual(node.level, 0, where)

    def test_expressions(self):
        for where, node, above in nodes():
            self.assertNotIsInstance(node, RULED_OUT, where)
            if isinstance(node, ast.Constant):
                self.assertIn(type(node.value), (int, str, bool, type(None)), where)
            if isinstance(node, ast.ListComp):
                self.assertEqual(len(node.generators), 1, where)
                self.assertLessEqual(len(node.generators[0].ifs), 1, where)
            if isinstance(node, ast.Compare) and isinstance(node.ops[0], (ast.Is, ast.IsNot)):
                self.assertIn(node.comparators[0].value, (None, True, False), where)

    def test_functions(self):
        for where, node, above in nodes():
            if isinstance(node, ast.FunctionDef):
                self.assertLessEqual(node.end_lineno - node.lineno + 1, 40, where)
                self.assertEqual(node.decorator_list, [], where)
                given = node.args
                self.assertFalse(given.vararg or given.kwarg or given.kwonlyargs or given.posonlyargs, where)
                self.assertFalse(node.returns or any(each.annotation for each in given.args), where)
            if isinstance(node, ast.ClassDef):
                self.assertFalse(node.decorator_list or node.keywords, where)

    def test_names(self):
        for where, node, above in nodes():
            bound = []
            if isinstance(node, ast.Name) and isinstance(node.ctx, ast.Store):
                bound.append(node.id)
            if isinstance(node, ast.arg):
                bound.append(node.arg)
            if isinstance(node, ast.FunctionDef) and node.name != "__init__":
                bound.append(node.name)
            for name in bound:
                self.assertFalse(hasattr(builtins, name) or name.startswith("_"), (where, name))
            if isinstance(node, ast.Name) and hasattr(builtins, node.id):
                self.assertIn(node.id, OWN_NAMES, where)
                self.assertIsInstance(above, ast.Call, where)

    def test_methods(self):
        for where, node, above in nodes():
            if isinstance(node, ast.Call) and isinstance(node.func, ast.Attribute):
                self.assertIn(node.func.attr, METHODS + own_methods(), where)

    def test_methods_and_values_have_names_of_their_own(self):
        taken = [name for kind in (str, int, list, tuple, dict, set, bytes) for name in dir(kind)]
        values = [node.attr for where, node, above in nodes()
                  if isinstance(node, ast.Attribute) and isinstance(node.ctx, ast.Store)]
        for name in own_methods() + values:
            self.assertTrue(name == "__init__" or name not in taken, name)
        self.assertEqual(set(own_methods()) & set(values), set())

    def test_walked_on_the_spot(self):
        for where, node, above in nodes():
            if isinstance(node, ast.Call) and isinstance(node.func, ast.Name) and node.func.id in WALKED:
                walked = isinstance(above, (ast.For, ast.comprehension)) and above.iter is node
                first = isinstance(above, ast.Call) and getattr(above.func, "id", "") in WALKS
                self.assertTrue(walked or first and above.args[0] is node, where)

    def test_sets_are_not_kept(self):
        for where, node, above in nodes():
            if isinstance(node, ast.Call) and getattr(node.func, "id", "") in ("set", "frozenset"):
                within = isinstance(above, ast.Call) and getattr(above.func, "id", "") in ("sorted", "len")
                self.assertTrue(within and not above.keywords or isinstance(above, (ast.Compare, ast.BinOp)), where)

    def test_no_local_is_called_like_a_class_or_an_import_of_its_file(self):
        for path in files():
            tree = ast.parse(path.read_text())
            taken = {name.name for node in tree.body if isinstance(node, ast.ImportFrom) for name in node.names}
            taken |= {node.name for node in tree.body if isinstance(node, ast.ClassDef)}
            for node in ast.walk(tree):
                if isinstance(node, ast.Name) and isinstance(node.ctx, ast.Store):
                    self.assertNotIn(node.id, taken, (path, node.lineno))
                if isinstance(node, ast.arg):
                    self.assertNotIn(node.arg, taken, (path, node.lineno))


if __name__ == "__main__":
    unittest.main()
