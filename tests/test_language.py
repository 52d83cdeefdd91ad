"""The package keeps to the small part of Python that it is written in."""

import ast
import builtins
import re
import unittest
from pathlib import Path

PACKAGE = Path(__file__).resolve().parent.parent / "fewregisters"

ALLOWED_BUILTINS = set("""len range enumerate zip min max sum abs sorted reversed int str bool list tuple dict set frozenset
isinstance ord repr any all divmod Exception ValueError TypeError KeyError IndexError LookupError ZeroDivisionError
ArithmeticError OverflowError RuntimeError NotImplementedError AttributeError StopIteration""".split())
ALLOWED_METHODS = set("""append clear copy count endswith extend find get index insert isalnum isalpha isdigit islower
isspace isupper items join keys ljust lower lstrip partition pop remove replace reverse rfind rjust rpartition rsplit rstrip
setdefault split splitlines startswith strip update upper values zfill bit_length""".split())
NEVER_NAMES = set("register mro elements open input version_info with_traceback add_note".split())
NEVER_WORDS = """type typing typing_extensions enum Enum IntEnum StrEnum Flag IntFlag Generic Protocol ABC ABCMeta namedtuple
NamedTuple TypedDict TYPE_CHECKING abstractmethod""".split()
STATEMENTS = (ast.Assign, ast.AugAssign, ast.If, ast.While, ast.For, ast.Return, ast.Break, ast.Continue, ast.Pass,
              ast.Raise, ast.Try, ast.Expr, ast.FunctionDef, ast.ClassDef, ast.ImportFrom)
EXPRESSIONS = (ast.Constant, ast.List, ast.Tuple, ast.Dict, ast.BinOp, ast.UnaryOp, ast.BoolOp, ast.Compare, ast.IfExp,
               ast.Call, ast.Attribute, ast.Subscript, ast.Slice, ast.ListComp, ast.JoinedStr, ast.FormattedValue, ast.Name,
               ast.Lambda)
WALKED_AT_ONCE = set("zip enumerate reversed range".split())
WALKERS = set("list tuple dict sorted sum any all enumerate zip min max".split())


def sources():
    return sorted(PACKAGE.glob("*.py"))


def each_node():
    for path in sources():
        for node in ast.walk(ast.parse(path.read_text())):
            yield path.name, node


class FileTest(unittest.TestCase):
    def test_plain_files_alone(self):
        found = [path for path in PACKAGE.iterdir() if path.name != "__pycache__"]
        for path in found:
            self.assertRegex(path.name, r"\A([a-z][a-z0-9_]*|__init__)\.py\Z")
            self.assertNotIn(path.stem, dir(builtins))

    def test_signs_and_sizes(self):
        for path in sources():
            rows = path.read_text().split("\n")
            self.assertLessEqual(len(rows), 400)
            for number, row in enumerate(rows, start=1):
                self.assertRegex(row, r"\A[ -~]{0,120}\Z", f"{path.name} {number}")

    def test_words_that_stand_nowhere(self):
        for path in sources():
            text = path.read_text()
            for word in NEVER_WORDS:
                self.assertIsNone(re.search(rf"\b{word}\b", text), f"{path.name} {word}")
            self.assertIsNone(re.search("dataclass|overload|contextmanager", text), path.name)

    def test_imports_go_one_way(self):
        drawn = {}
        for name, node in each_node():
            drawn.setdefault(name, set())
            if isinstance(node, ast.ImportFrom):
                self.assertEqual(node.level, 0)
                self.assertTrue(node.module.startswith("fewregisters."), name)
                self.assertTrue(all(alias.asname is None and alias.name != "*" for alias in node.names))
                drawn[name].add(node.module.split(".")[1] + ".py")
        while drawn:
            free = [name for name in drawn if not drawn[name]]
            self.assertTrue(free, f"these draw from one another: {drawn}")
            drawn = {name: drawn[name] - set(free) for name in drawn if name not in free}


class NodeTest(unittest.TestCase):
    def test_statements_and_expressions(self):
        for name, node in each_node():
            if isinstance(node, ast.stmt):
                self.assertIsInstance(node, STATEMENTS, f"{name} {node.lineno}")
            if isinstance(node, ast.expr):
                self.assertIsInstance(node, EXPRESSIONS, f"{name} {node.lineno}")
            if isinstance(node, (ast.Div, ast.MatMult)):
                self.fail(name)

    def test_forms_of_statements(self):
        for name, node in each_node():
            if isinstance(node, ast.Assign):
                self.assertEqual(len(node.targets), 1, f"{name} {node.lineno}")
                self.assertNotIsInstance(node.targets[0], (ast.Tuple, ast.List), f"{name} {node.lineno}")
            if isinstance(node, (ast.For, ast.While)):
                self.assertEqual(node.orelse, [], f"{name} {node.lineno}")
            if isinstance(node, ast.Try):
                self.assertEqual(node.finalbody, [], f"{name} {node.lineno}")
                self.assertTrue(all(isinstance(handler.type, ast.Name) for handler in node.handlers))
            if isinstance(node, ast.Expr):
                self.assertIsInstance(node.value, (ast.Call, ast.Constant), f"{name} {node.lineno}")
            if isinstance(node, ast.ListComp):
                self.assertEqual(len(node.generators), 1, f"{name} {node.lineno}")
                self.assertLessEqual(len(node.generators[0].ifs), 1, f"{name} {node.lineno}")

    def test_functions_and_classes(self):
        for name, node in each_node():
            if isinstance(node, ast.FunctionDef):
                self.assertLessEqual(node.end_lineno - node.lineno + 1, 40, f"{name} {node.name}")
                self.assertEqual(node.decorator_list, [])
                self.assertTrue(node.args.vararg is None and node.args.kwarg is None and not node.args.kwonlyargs)
            if isinstance(node, ast.ClassDef):
                self.assertEqual(node.decorator_list, [])
                self.assertLessEqual(len(node.bases), 1)
                self.assertTrue(all(isinstance(part, (ast.FunctionDef, ast.Expr)) for part in node.body), node.name)

    def test_the_top_of_a_file_holds_plain_values(self):
        for path in sources():
            bound = []
            for node in ast.parse(path.read_text()).body:
                if isinstance(node, ast.Assign):
                    bound.append(node.targets[0].id)
                    plain = (ast.Constant, ast.Tuple, ast.List, ast.Dict, ast.Name, ast.UnaryOp, ast.USub, ast.Load)
                    self.assertTrue(all(isinstance(part, plain) for part in ast.walk(node.value)), path.name)
                elif isinstance(node, (ast.FunctionDef, ast.ClassDef)):
                    bound.append(node.name)
                elif not isinstance(node, ast.ImportFrom):
                    self.assertIsInstance(node.value, ast.Constant, path.name)
            self.assertEqual(len(bound), len(set(bound)), path.name)

    def test_names(self):
        for name, node in each_node():
            found = []
            if isinstance(node, ast.Name):
                found = [node.id]
                if isinstance(node.ctx, ast.Load) and hasattr(builtins, node.id):
                    self.assertIn(node.id, ALLOWED_BUILTINS, f"{name} {node.lineno}")
                if isinstance(node.ctx, ast.Store):
                    self.assertFalse(hasattr(builtins, node.id), f"{name} {node.lineno}")
            if isinstance(node, ast.arg):
                found = [node.arg]
                self.assertFalse(hasattr(builtins, node.arg), f"{name} {node.lineno}")
            if isinstance(node, ast.Attribute):
                found = [node.attr]
            if isinstance(node, (ast.FunctionDef, ast.ClassDef)):
                found = [node.name]
            for one in found:
                self.assertNotIn(one, NEVER_NAMES, name)
                self.assertTrue(one == "__init__" or re.fullmatch("[A-Za-z][A-Za-z0-9_]*", one), f"{name} {one}")

    def test_no_local_is_called_like_a_class_or_an_import(self):
        for path in sources():
            tree = ast.parse(path.read_text())
            taken = {alias.name for node in tree.body if isinstance(node, ast.ImportFrom) for alias in node.names}
            taken |= {node.name for node in tree.body if isinstance(node, ast.ClassDef)}
            for node in ast.walk(tree):
                if isinstance(node, ast.Name) and isinstance(node.ctx, ast.Store):
                    self.assertNotIn(node.id, taken, f"{path.name} {node.lineno}")
                if isinstance(node, ast.arg):
                    self.assertNotIn(node.arg, taken, f"{path.name} {node.lineno}")

    def test_methods_of_python(self):
        values = {node.attr for _, node in each_node() if isinstance(node, ast.Attribute) and isinstance(node.ctx, ast.Store)}
        for name, node in each_node():
            if isinstance(node, ast.Call) and isinstance(node.func, ast.Attribute):
                self.assertIn(node.func.attr, ALLOWED_METHODS | values, f"{name} {node.lineno}")

    def test_texts(self):
        for name, node in each_node():
            if isinstance(node, ast.Constant):
                self.assertIsInstance(node.value, (int, str, type(None)), f"{name} {node.lineno}")
                if isinstance(node.value, str):
                    self.assertNotIn("%", node.value, f"{name} {node.lineno}")
            if isinstance(node, ast.FormattedValue):
                self.assertIsInstance(node.value, ast.Name, f"{name} {node.lineno}")

    def test_is_stands_beside_none_alone(self):
        for name, node in each_node():
            if isinstance(node, ast.Compare) and any(isinstance(sign, (ast.Is, ast.IsNot)) for sign in node.ops):
                self.assertIsInstance(node.comparators[0], ast.Constant, f"{name} {node.lineno}")

    def test_walked_at_once(self):
        for path in sources():
            tree = ast.parse(path.read_text())
            good = set()
            for node in ast.walk(tree):
                if isinstance(node, (ast.For, ast.comprehension)):
                    good.add(node.iter)
                if isinstance(node, ast.Call) and isinstance(node.func, ast.Name) and node.func.id in WALKERS and node.args:
                    good.update(node.args)
            for node in ast.walk(tree):
                if isinstance(node, ast.Call) and isinstance(node.func, ast.Name) and node.func.id in WALKED_AT_ONCE:
                    self.assertIn(node, good, f"{path.name} {node.lineno}")


if __name__ == "__main__":
    unittest.main()
