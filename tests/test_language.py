"""Holds the package's files to the part of Python that they keep to, as far as a test can see it."""

import ast
import builtins
import pathlib
import re
import unittest

PACKAGE = pathlib.Path(__file__).resolve().parent.parent / "standtable"
STATEMENTS = (ast.Assign, ast.AugAssign, ast.If, ast.While, ast.For, ast.Return, ast.Break, ast.Continue, ast.Pass,
              ast.Raise, ast.Try, ast.Expr, ast.FunctionDef, ast.ClassDef, ast.ImportFrom)
EXPRESSIONS = (ast.BinOp, ast.UnaryOp, ast.BoolOp, ast.Compare, ast.IfExp, ast.Call, ast.Attribute, ast.Subscript,
               ast.Slice, ast.List, ast.Tuple, ast.Dict, ast.Set, ast.ListComp, ast.JoinedStr, ast.FormattedValue,
               ast.Lambda, ast.Name, ast.Constant)
BUILTINS = """len range enumerate zip min max sum abs sorted reversed int str bool list tuple dict set frozenset
    isinstance ord repr any all divmod Exception ValueError KeyError IndexError LookupError ZeroDivisionError
    ArithmeticError OverflowError RuntimeError NotImplementedError StopIteration""".split()
METHODS = """append clear copy count endswith extend find get index insert isalnum isalpha isdigit islower isspace
    isupper items join keys ljust lower lstrip partition pop remove replace reverse rfind rjust rpartition rsplit
    rstrip setdefault split splitlines startswith strip update upper values zfill bit_length""".split()
NOWHERE = """type typing typing_extensions enum Enum IntEnum StrEnum Flag IntFlag Generic Protocol ABC ABCMeta
    namedtuple NamedTuple TypedDict TYPE_CHECKING abstractmethod""".split()
NO_NAMES = """register mro elements open input version_info with_traceback add_note format format_map""".split()


def files():
    return sorted(PACKAGE.glob("*.py"))


def trees():
    return [(path.name, ast.parse(path.read_text())) for path in files()]


def nodes(*kinds):
    return [(name, node) for name, tree in trees() for node in ast.walk(tree) if isinstance(node, kinds)]


class Language(unittest.TestCase):
    def test_files(self):
        self.assertIn("book.py", [path.name for path in files()])
        others = [path.name for path in PACKAGE.iterdir() if path not in files() and path.name != "__pycache__"]
        self.assertEqual(others, [])
        for path in files():
            self.assertRegex(path.name, r"\A[a-z][a-z0-9_]*\.py\Z|\A__init__\.py\Z")
            self.assertTrue(path.stem == "__init__" or not hasattr(builtins, path.stem), path)

    def test_signs_and_sizes(self):
        for path in files():
            text = path.read_bytes().decode("ascii")
            self.assertRegex(text, r"\A[ -~\n]*\Z", path)
            lines = text.split("\n")
            self.assertLessEqual(len(lines), 400, path)
            self.assertLessEqual(max(len(line) for line in lines), 120, path)
            words = set(re.findall(r"\w+", text))
            self.assertEqual(words & set(NOWHERE), set(), path)
            self.assertNotRegex(text, "dataclass|overload|contextmanager", path)
        for name, node in nodes(ast.FunctionDef):
            self.assertLessEqual(node.end_lineno - node.lineno + 1, 40, (name, node.name))

    def test_statements_and_expressions(self):
        for name, node in nodes(ast.stmt):
            self.assertIsInstance(node, STATEMENTS, (name, node.lineno))
            if isinstance(node, (ast.For, ast.While)):
                self.assertEqual(node.orelse, [], (name, node.lineno))
            if isinstance(node, ast.Assign):
                self.assertEqual(len(node.targets), 1, (name, node.lineno))
            if isinstance(node, ast.Expr):
                self.assertIsInstance(node.value, (ast.Call, ast.Constant), (name, node.lineno))
        for name, node in nodes(ast.expr):
            self.assertIsInstance(node, EXPRESSIONS, (name, node.lineno))
            if isinstance(node, ast.Constant):
                self.assertIn(type(node.value), (int, str, bool, type(None)), (name, node.lineno))
                self.assertNotIn("%", str(node.value), (name, node.lineno))
            if isinstance(node, ast.BinOp):
                self.assertNotIsInstance(node.op, (ast.Div, ast.MatMult, ast.Pow), (name, node.lineno))
            if isinstance(node, ast.ListComp):
                self.assertEqual(len(node.generators), 1, (name, node.lineno))
                self.assertLessEqual(len(node.generators[0].ifs), 1, (name, node.lineno))
            if isinstance(node, ast.Compare) and any(isinstance(op, (ast.Is, ast.IsNot)) for op in node.ops):
                self.assertIsInstance(node.comparators[0], ast.Constant, (name, node.lineno))

    def test_top_of_a_file(self):
        for name, tree in trees():
            bound = []
            for node in tree.body:
                self.assertIsInstance(node, (ast.Expr, ast.ImportFrom, ast.FunctionDef, ast.ClassDef, ast.Assign), name)
                if isinstance(node, ast.ImportFrom):
                    self.assertRegex(node.module, r"\Astandtable\.\w+\Z")
                    self.assertEqual(node.level, 0)
                    bound += [alias.asname or alias.name for alias in node.names]
                if isinstance(node, (ast.FunctionDef, ast.ClassDef)):
                    bound.append(node.name)
                if isinstance(node, ast.Assign):
                    bound.append(node.targets[0].id)
                    self.assertIsInstance(node.value, (ast.Constant, ast.UnaryOp, ast.Tuple), name)
                    defs = [top.name for top in tree.body if isinstance(top, ast.FunctionDef)
                            and top.lineno < node.lineno]
                    for inner in ast.walk(node.value):
                        self.assertTrue(not isinstance(inner, ast.Name) or inner.id in defs, (name, node.lineno))
            self.assertEqual(len(bound), len(set(bound)), name)
            if name == "__init__.py":
                self.assertEqual(bound, [])

    def test_imports_are_used_defined_there_and_go_round_in_no_ring(self):
        made = {}
        drawn = {}
        for name, tree in trees():
            module = "standtable." + name[:-3]
            tops = [node for node in tree.body if isinstance(node, (ast.FunctionDef, ast.ClassDef))]
            made[module] = [node.name for node in tops]
            made[module] += [node.targets[0].id for node in tree.body if isinstance(node, ast.Assign)]
            imports = [node for node in tree.body if isinstance(node, ast.ImportFrom)]
            drawn[module] = [(node.module, alias.name) for node in imports for alias in node.names]
            used = [node.id for node in ast.walk(tree) if isinstance(node, ast.Name)]
            for source, thing in drawn[module]:
                self.assertIn(thing, used, module)
        for module in drawn:
            for source, thing in drawn[module]:
                self.assertIn(thing, made[source], module)
        left = {module: {source for source, thing in drawn[module]} for module in drawn}
        while left:
            free = [module for module in left if not left[module] & set(left)]
            self.assertNotEqual(free, [], "these draw from one another: %s" % sorted(left))
            for module in free:
                del left[module]

    def test_names(self):
        for name, tree in trees():
            tops = [node.name for node in tree.body if isinstance(node, (ast.FunctionDef, ast.ClassDef))]
            tops += [node.targets[0].id for node in tree.body if isinstance(node, ast.Assign)]
            tops += [alias.name for node in tree.body if isinstance(node, ast.ImportFrom) for alias in node.names]
            given = [node.id for node in ast.walk(tree) if isinstance(node, ast.Name) and
                     isinstance(node.ctx, ast.Store)]
            given += [node.arg for node in ast.walk(tree) if isinstance(node, ast.arg)]
            inner = [node for top in tree.body if isinstance(top, (ast.FunctionDef, ast.ClassDef))
                     for node in ast.walk(top)]
            local = {node.id for node in inner if isinstance(node, ast.Name) and isinstance(node.ctx, ast.Store)}
            local |= {node.arg for node in inner if isinstance(node, ast.arg)}
            self.assertEqual(local & set(tops), set(), name)
            for word in given + tops:
                self.assertFalse(hasattr(builtins, word), (name, word))
                self.assertFalse(word.startswith("_"), (name, word))
                self.assertNotIn(word, NO_NAMES, name)
            for node in ast.walk(tree):
                if isinstance(node, ast.Name) and node.id not in given + tops:
                    self.assertIn(node.id, BUILTINS, (name, node.lineno))

    def test_walked_at_once_and_sets_not_kept(self):
        for name, tree in trees():
            walked, beside = [], []
            for node in ast.walk(tree):
                if isinstance(node, (ast.For, ast.comprehension)):
                    walked.append(node.iter)
                if isinstance(node, ast.Call) and isinstance(node.func, ast.Name) and node.args:
                    if node.func.id in "list tuple dict sorted sum any all enumerate zip min max".split():
                        walked.append(node.args[0])
                    if node.func.id in ("len", "sorted"):
                        beside.append(node.args[0])
                if isinstance(node, ast.Compare):
                    beside += node.comparators + [node.left]
            for node in ast.walk(tree):
                if not isinstance(node, ast.Call):
                    continue
                if isinstance(node.func, ast.Name) and node.func.id in ("zip", "enumerate", "reversed", "range"):
                    self.assertIn(node, walked, (name, node.lineno))
                if isinstance(node.func, ast.Attribute) and node.func.attr in ("items", "keys", "values"):
                    self.assertIn(node, walked, (name, node.lineno))
                if isinstance(node.func, ast.Name) and node.func.id in ("set", "frozenset"):
                    self.assertIn(node, beside, (name, node.lineno))

    def test_functions(self):
        for name, node in nodes(ast.FunctionDef, ast.Lambda):
            args = node.args
            self.assertEqual((args.vararg, args.kwarg, args.kwonlyargs, args.posonlyargs), (None, None, [], []), name)
        for name, node in nodes(ast.FunctionDef, ast.ClassDef):
            self.assertEqual(node.decorator_list, [], (name, node.name))

    def test_methods_and_values(self):
        methods = []
        for name, node in nodes(ast.ClassDef):
            for inner in node.body:
                self.assertTrue(isinstance(inner, ast.FunctionDef) or ast.get_docstring(node) is not None
                                and inner is node.body[0], (name, node.name))
            methods += [inner.name for inner in node.body if isinstance(inner, ast.FunctionDef)]
        stored = {node.attr for name, node in nodes(ast.Attribute) if isinstance(node.ctx, ast.Store)}
        self.assertEqual(stored & set(methods), set())
        own = [word for kind in (str, int, list, dict, set, bytes, tuple) for word in dir(kind)]
        for word in list(stored) + methods:
            self.assertTrue(word not in own or word == "__init__", word)
        for name, node in nodes(ast.Attribute):
            self.assertIn(node.attr, list(stored) + methods + METHODS, (name, node.lineno))
            self.assertNotIn(node.attr, NO_NAMES, (name, node.lineno))


if __name__ == "__main__":
    unittest.main()
