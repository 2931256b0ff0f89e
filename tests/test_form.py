"""The form of the package's own files: the rules of the language part that can be seen in the files themselves."""

import ast
import builtins
import pathlib
import re
import unittest

PACKAGE = pathlib.Path(__file__).resolve().parent.parent / "flagbooks"
FILES = sorted(path for path in PACKAGE.rglob("*") if path.is_file() and "__pycache__" not in path.parts)

STATEMENTS = (ast.FunctionDef, ast.ClassDef, ast.Return, ast.Assign, ast.AugAssign, ast.For, ast.While, ast.If,
              ast.Raise, ast.Try, ast.ImportFrom, ast.Expr, ast.Pass, ast.Break, ast.Continue)
EXPRESSIONS = (ast.BoolOp, ast.BinOp, ast.UnaryOp, ast.Lambda, ast.IfExp, ast.Dict, ast.ListComp, ast.Compare,
               ast.Call, ast.Constant, ast.Attribute, ast.Subscript, ast.Name, ast.List, ast.Tuple, ast.Slice,
               ast.JoinedStr, ast.FormattedValue)
NAMES = set("""len range enumerate zip min max sum abs sorted reversed int str bool list tuple dict set frozenset
    isinstance ord repr any all divmod Exception ValueError KeyError IndexError LookupError ZeroDivisionError
    ArithmeticError OverflowError RuntimeError NotImplementedError StopIteration""".split())
METHODS = set("""append clear copy count endswith extend find get index insert isalnum isalpha isdigit islower
    isspace isupper items join keys ljust lower lstrip partition pop remove replace reverse rfind rjust rpartition
    rsplit rstrip setdefault split splitlines startswith strip update upper values zfill bit_length""".split())
WORDS = re.compile(r"\b(type|typing|typing_extensions|enum|Enum|IntEnum|StrEnum|Flag|IntFlag|Generic|Protocol|ABC|"
                   r"ABCMeta|namedtuple|NamedTuple|TypedDict|TYPE_CHECKING|abstractmethod)\b|"
                   r"dataclass|overload|contextmanager")
TAKEN_VALUES = set(dir(str) + dir(int) + dir(list) + dir(dict) + dir(set) + dir(bytes) + ["args", "format", "sort"])
FREE_VALUES = set("count index title find get join lower upper split strip copy add".split())
WALKED = set("zip enumerate reversed range items keys values".split())
WALKERS = set("list tuple dict sorted sum any all enumerate zip".split())


def called(call):
    """The name of the function or method that is called."""
    return getattr(call.func, "id", None) or getattr(call.func, "attr", None)


def walks(node, child):
    """Whether a node walks what stands in it on the spot."""
    if isinstance(node, (ast.For, ast.comprehension)):
        return node.iter is child
    return isinstance(node, ast.Call) and isinstance(node.func, ast.Name) and node.args[:1] == [child] and (
        node.func.id in WALKERS or (node.func.id in ("min", "max") and len(node.args) == 1))


class Form(unittest.TestCase):
    def walk(self):
        for path in FILES:
            for node in ast.walk(ast.parse(path.read_text())):
                yield f"{path.name}:{getattr(node, 'lineno', 0)}", node

    def test_files(self):
        self.assertIn(PACKAGE / "__init__.py", FILES)
        self.assertIn(PACKAGE / "desk.py", FILES)
        for path in FILES:
            self.assertEqual(path.parent, PACKAGE)
            self.assertRegex(path.name, r"^[a-z0-9_]+\.py$")
            self.assertNotIn(path.stem, dir(builtins))
            self.assertNotRegex(path.stem, r"^(test|site|conftest|sitecustomize|usercustomize)")

    def test_signs_and_sizes(self):
        for path in FILES:
            words = path.read_text()
            self.assertRegex(words, r"\A[ -~\n]*\Z", path.name)
            self.assertIsNone(WORDS.search(words), path.name)
            self.assertLessEqual(len(words.splitlines()), 400, path.name)
            self.assertLessEqual(max(len(line) for line in words.splitlines()), 120, path.name)

    def test_statements_and_expressions(self):
        for where, node in self.walk():
            if isinstance(node, ast.stmt):
                self.assertIsInstance(node, STATEMENTS, where)
            if isinstance(node, ast.expr):
                self.assertIsInstance(node, EXPRESSIONS, where)
            if isinstance(node, ast.Assign):
                self.assertEqual(len(node.targets), 1, where)
                self.assertNotIsInstance(node.targets[0], (ast.Tuple, ast.List), where)
            if isinstance(node, (ast.For, ast.While)):
                self.assertEqual(node.orelse, [], where)
            if isinstance(node, ast.ListComp):
                self.assertEqual(len(node.generators), 1, where)
                self.assertLessEqual(len(node.generators[0].ifs), 1, where)
            if isinstance(node, ast.Constant):
                self.assertNotIsInstance(node.value, (float, complex, bytes), where)
                self.assertNotIn("\x25", str(node.value), where)
            if isinstance(node, (ast.Div, ast.Pow, ast.MatMult)):
                self.fail(where)
            if isinstance(node, ast.Compare) and any(isinstance(told, (ast.Is, ast.IsNot)) for told in node.ops):
                self.assertIn(node.comparators[0].value, (None, True, False), where)

    def test_functions(self):
        for where, node in self.walk():
            if isinstance(node, ast.FunctionDef):
                self.assertLessEqual(node.end_lineno - node.lineno + 1, 40, where)
                self.assertEqual(node.decorator_list, [], where)
                self.assertIsNotNone(ast.get_docstring(node) or node.name == "__init__" or None, where)
            if isinstance(node, ast.arguments):
                self.assertEqual((node.vararg, node.kwarg, node.kwonlyargs, node.posonlyargs), (None, None, [], []))
            if isinstance(node, ast.arg):
                self.assertNotIn(node.arg, dir(builtins), where)
                self.assertNotRegex(node.arg, "^_", where)

    def test_names(self):
        for where, node in self.walk():
            if isinstance(node, ast.Name) and isinstance(node.ctx, ast.Load) and node.id in dir(builtins):
                self.assertIn(node.id, NAMES, where)
            if isinstance(node, ast.Name) and isinstance(node.ctx, ast.Store):
                self.assertNotIn(node.id, dir(builtins), where)
                self.assertNotRegex(node.id, "^_", where)
            if isinstance(node, ast.Call) and isinstance(node.func, ast.Attribute):
                self.assertIn(node.func.attr, METHODS, where)
            if isinstance(node, ast.Attribute) and isinstance(node.ctx, ast.Store):
                self.assertNotIn(node.attr, TAKEN_VALUES - FREE_VALUES, where)

    def test_locals_are_not_called_like_classes_or_imports(self):
        for path in FILES:
            tree = ast.parse(path.read_text())
            taken = {node.name for node in tree.body if isinstance(node, ast.ClassDef)}
            taken |= {alias.name for node in tree.body if isinstance(node, ast.ImportFrom) for alias in node.names}
            for node in ast.walk(tree):
                if isinstance(node, ast.arg):
                    self.assertNotIn(node.arg, taken, path.name)
                if isinstance(node, ast.Name) and isinstance(node.ctx, ast.Store):
                    self.assertNotIn(node.id, taken, path.name)

    def test_imports(self):
        drawn = {path.stem: set() for path in FILES}
        for where, node in self.walk():
            if isinstance(node, ast.ImportFrom):
                self.assertEqual(node.level, 0, where)
                self.assertRegex(node.module, r"^flagbooks\.[a-z]+$", where)
                source = ast.parse((PACKAGE / (node.module.split(".")[1] + ".py")).read_text())
                defined = [told.name for told in source.body if isinstance(told, (ast.FunctionDef, ast.ClassDef))]
                defined += [told.targets[0].id for told in source.body if isinstance(told, ast.Assign)]
                for alias in node.names:
                    self.assertIn(alias.name, defined, where)
                    self.assertIsNone(alias.asname, where)
                drawn[where.split(".")[0]].add(node.module.split(".")[1])
        while drawn:
            free = [name for name in drawn if not drawn[name] & set(drawn)]
            self.assertTrue(free, f"files that draw from one another: {drawn}")
            for name in free:
                del drawn[name]

    def test_walked_at_once(self):
        for path in FILES:
            for node in ast.walk(ast.parse(path.read_text())):
                for child in ast.iter_child_nodes(node):
                    if isinstance(child, ast.Call) and called(child) in WALKED:
                        self.assertTrue(walks(node, child), f"{path.name}:{child.lineno}")


if __name__ == "__main__":
    unittest.main()
