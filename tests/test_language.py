"""The part of Python that the package keeps to, as far as a walk through its files can tell."""

import ast
import builtins
import pathlib
import re
import unittest

FOLDER = pathlib.Path(__file__).resolve().parent.parent / "cellbookyard"
FILES = [path for path in sorted(FOLDER.rglob("*")) if "__pycache__" not in path.parts]

STATEMENTS = (
    ast.Assign, ast.AugAssign, ast.If, ast.While, ast.For, ast.Return, ast.Break, ast.Continue, ast.Pass, ast.Raise,
    ast.Try, ast.Expr, ast.FunctionDef, ast.ClassDef, ast.ImportFrom,
)
EXPRESSIONS = (
    ast.Constant, ast.List, ast.Tuple, ast.Dict, ast.Set, ast.BinOp, ast.UnaryOp, ast.BoolOp, ast.Compare, ast.IfExp,
    ast.Call, ast.Attribute, ast.Subscript, ast.Slice, ast.ListComp, ast.JoinedStr, ast.FormattedValue, ast.Name,
    ast.Lambda,
)
OWN_NAMES = set(
    "len range enumerate zip min max sum abs sorted reversed int str bool list tuple dict set frozenset isinstance"
    " ord repr any all divmod Exception ValueError TypeError KeyError IndexError LookupError ZeroDivisionError"
    " ArithmeticError OverflowError RuntimeError NotImplementedError AttributeError StopIteration".split()
)
METHODS = set(
    "append clear copy count endswith extend find get index insert isalnum isalpha isdigit islower isspace isupper"
    " items join keys ljust lower lstrip partition pop remove replace reverse rfind rjust rpartition rsplit rstrip"
    " setdefault split splitlines startswith strip update upper values zfill bit_length add discard".split()
)
UNUSED_WORDS = set(
    "type typing typing_extensions enum Enum IntEnum StrEnum Flag IntFlag Generic Protocol ABC ABCMeta namedtuple"
    " NamedTuple TypedDict TYPE_CHECKING abstractmethod register mro elements open input".split()
)
UNUSED_PARTS = ("dataclass", "overload", "contextmanager")
KINDS = (str, int, list, dict, tuple, set, bytes)
WALKED = ("zip", "enumerate", "reversed", "range", "items", "keys", "values")
WALKERS = ("list", "tuple", "dict", "sorted", "sum", "any", "all", "enumerate", "zip", "min", "max")


def bound_names(tree):
    """Every name that the file binds: parameters, locals, functions, classes, names of the top."""
    for node in ast.walk(tree):
        if isinstance(node, ast.arg):
            yield node.arg
        elif isinstance(node, ast.Name) and isinstance(node.ctx, ast.Store):
            yield node.id
        elif isinstance(node, (ast.FunctionDef, ast.ClassDef)):
            yield node.name
        elif isinstance(node, ast.alias):
            yield node.asname or node.name


def called_name(node):
    """The name of the function or method that a call calls."""
    return node.func.id if isinstance(node.func, ast.Name) else getattr(node.func, "attr", "")


def is_plain(node, functions):
    """Whether a value of a file's top is one of those that may stand there."""
    if isinstance(node, (ast.List, ast.Tuple)):
        return all(is_plain(part, functions) for part in node.elts)
    if isinstance(node, ast.Dict):
        return all(is_plain(part, functions) for part in node.keys + node.values)
    if isinstance(node, ast.UnaryOp):
        return isinstance(node.op, ast.USub) and isinstance(node.operand, ast.Constant)
    return isinstance(node, ast.Constant) or (isinstance(node, ast.Name) and node.id in functions)


def only_read(node, above):
    """Whether a list or dict of a file's top is read where it stands: by an index, a walk, or `in`."""
    if isinstance(above, ast.Subscript):
        return above.value is node and isinstance(above.ctx, ast.Load)
    if isinstance(above, ast.Compare):
        return node in above.comparators
    return isinstance(above, (ast.For, ast.comprehension)) and above.iter is node


class LanguageTest(unittest.TestCase):
    def setUp(self):
        self.texts = {path: path.read_text(encoding="utf-8") for path in FILES}
        self.trees = {path: ast.parse(text) for path, text in self.texts.items()}

    def nodes(self):
        for path, tree in self.trees.items():
            for node in ast.walk(tree):
                yield f"{path.name}:{getattr(node, 'lineno', 0)}", node

    def pairs(self):
        """Every node with the one above it."""
        for where, above in self.nodes():
            for node in ast.iter_child_nodes(above):
                yield where, node, above

    def test_files(self):
        self.assertIn(FOLDER / "__init__.py", FILES)
        for path in FILES:
            self.assertTrue(path.is_file())
            self.assertRegex(path.name, r"^[a-z_][a-z0-9_]*\.py$")
            self.assertTrue(path.stem.startswith("__") or not hasattr(builtins, path.stem), path.name)
            self.assertNotRegex(path.name, r"^(test.*|site|conftest|sitecustomize|usercustomize)\.py$")

    def test_signs_and_sizes(self):
        for path, text in self.texts.items():
            self.assertRegex(text, r"\A[ -~\n]*\Z", path.name)
            self.assertLessEqual(len(text.splitlines()), 400, path.name)
            self.assertLessEqual(max(len(row) for row in text.splitlines()), 120, path.name)
        for where, node in self.nodes():
            if isinstance(node, ast.FunctionDef):
                self.assertLessEqual(node.end_lineno - node.lineno + 1, 40, where)

    def test_unused_words(self):
        for path, text in self.texts.items():
            self.assertEqual(set(re.findall(r"\w+", text)) & UNUSED_WORDS, set(), path.name)
            for part in UNUSED_PARTS:
                self.assertNotIn(part, text, path.name)

    def test_statements_and_expressions(self):
        for where, node in self.nodes():
            if isinstance(node, ast.stmt):
                self.assertIsInstance(node, STATEMENTS, where)
            if isinstance(node, ast.expr):
                self.assertIsInstance(node, EXPRESSIONS, where)
            if isinstance(node, ast.Constant):
                self.assertIsInstance(node.value, (int, str, type(None)), where)
                self.assertNotIn("%", str(node.value), where)
            self.assertNotIsInstance(node, ast.Div)
            if isinstance(getattr(node, "op", None), ast.Pow):
                self.assertIsInstance(node, ast.BinOp, where)
                self.assertIsInstance(node.right, ast.Constant, where)
                self.assertLessEqual(node.right.value, 64, where)
            if isinstance(node, ast.Assign):
                self.assertEqual(len(node.targets), 1, where)
            if isinstance(node, (ast.For, ast.While)):
                self.assertEqual(node.orelse, [], where)
            if isinstance(node, ast.ListComp):
                self.assertEqual(len(node.generators), 1, where)
                self.assertLessEqual(len(node.generators[0].ifs), 1, where)

    def test_is_stands_beside_none_true_and_false(self):
        for where, node in self.nodes():
            if isinstance(node, ast.Compare):
                for how, right in zip(node.ops, node.comparators):
                    if isinstance(how, (ast.Is, ast.IsNot)):
                        self.assertIsInstance(right, ast.Constant, where)
                        self.assertIn(right.value, (None, True, False), where)

    def test_functions_and_classes(self):
        for where, node in self.nodes():
            if isinstance(node, (ast.FunctionDef, ast.ClassDef)):
                self.assertEqual(node.decorator_list, [], where)
            if isinstance(node, ast.arguments):
                self.assertEqual((node.vararg, node.kwarg, node.kwonlyargs, node.posonlyargs), (None, None, [], []))
            if isinstance(node, ast.ClassDef):
                self.assertLessEqual(len(node.bases), 1, where)
                for part in node.body:
                    self.assertIsInstance(part, (ast.FunctionDef, ast.Expr), where)

    def test_imports(self):
        for where, node in self.nodes():
            if isinstance(node, ast.ImportFrom):
                self.assertEqual(node.level, 0, where)
                self.assertTrue(node.module.startswith("cellbookyard."), where)
                source = FOLDER / (node.module.split(".")[-1] + ".py")
                defined = [part.name for part in self.trees[source].body if hasattr(part, "name")]
                defined += [part.targets[0].id for part in self.trees[source].body if isinstance(part, ast.Assign)]
                for name in node.names:
                    self.assertIn(name.name, defined, where)

    def test_imports_go_one_way(self):
        drawn = {}
        for path, tree in self.trees.items():
            drawn[path.stem] = {node.module.split(".")[-1] for node in tree.body if isinstance(node, ast.ImportFrom)}
        self.assertEqual(drawn["__init__"], set())
        while drawn:
            free = [name for name, sources in drawn.items() if not sources & set(drawn)]
            self.assertNotEqual(free, [], drawn)
            drawn = {name: sources for name, sources in drawn.items() if name not in free}

    def test_the_top_of_a_file(self):
        for path, tree in self.trees.items():
            bound = []
            functions = []
            self.assertIsNotNone(ast.get_docstring(tree), path.name)
            for part in tree.body[1:]:
                self.assertIsInstance(part, (ast.ImportFrom, ast.FunctionDef, ast.ClassDef, ast.Assign), path.name)
                if isinstance(part, ast.FunctionDef):
                    functions.append(part.name)
                if isinstance(part, ast.Assign):
                    self.assertTrue(is_plain(part.value, functions), path.name)
                    bound.append(part.targets[0].id)
                elif isinstance(part, ast.ImportFrom):
                    bound += [name.name for name in part.names]
                else:
                    bound.append(part.name)
            self.assertEqual(sorted(bound), sorted(set(bound)), path.name)

    def test_lists_and_dicts_of_the_top_are_only_read(self):
        kept = [part.targets[0].id for tree in self.trees.values() for part in tree.body
                if isinstance(part, ast.Assign) and isinstance(part.value, (ast.List, ast.Dict, ast.Tuple))]
        self.assertIn("ACTIONS", kept)
        for where, node, above in self.pairs():
            if isinstance(node, ast.Name) and node.id in kept and isinstance(node.ctx, ast.Load):
                self.assertTrue(only_read(node, above), where)

    def test_locals_are_not_called_like_imports_or_classes(self):
        for path, tree in self.trees.items():
            taken = {name.name for node in tree.body if isinstance(node, ast.ImportFrom) for name in node.names}
            taken |= {node.name for node in tree.body if isinstance(node, ast.ClassDef)}
            for node in ast.walk(tree):
                if isinstance(node, ast.FunctionDef):
                    own = {part.arg for part in ast.walk(node) if isinstance(part, ast.arg)}
                    own |= {part.id for part in ast.walk(node)
                            if isinstance(part, ast.Name) and isinstance(part.ctx, ast.Store)}
                    self.assertEqual(own & taken, set(), f"{path.name}: {node.name}")

    def test_no_annotations(self):
        for where, node in self.nodes():
            self.assertIsNone(getattr(node, "annotation", None), where)
            self.assertIsNone(getattr(node, "returns", None), where)

    def test_names_of_pythons_own_are_called(self):
        for where, node, above in self.pairs():
            if isinstance(node, ast.Name) and hasattr(builtins, node.id):
                self.assertIsInstance(above, ast.Call, where)
                self.assertIs(above.func, node, where)
                self.assertEqual(above.keywords, [], where)

    def test_walked_at_once(self):
        for where, node, above in self.pairs():
            if isinstance(node, ast.Call) and called_name(node) in WALKED:
                if isinstance(above, ast.Call):
                    self.assertIn(called_name(above), WALKERS, where)
                else:
                    self.assertIsInstance(above, (ast.For, ast.comprehension), where)
                    self.assertIs(above.iter, node, where)

    def test_names(self):
        for path, tree in self.trees.items():
            own = set(bound_names(tree))
            for name in own - {"__init__", "__eq__", "__repr__", "__str__", "__len__"}:
                self.assertRegex(name, r"^[A-Za-z][A-Za-z0-9_]*$", path.name)
                self.assertFalse(hasattr(builtins, name), f"{path.name}: {name}")
            for node in ast.walk(tree):
                if isinstance(node, ast.Name) and hasattr(builtins, node.id):
                    self.assertIn(node.id, OWN_NAMES, path.name)

    def test_methods_and_values(self):
        methods = [part.name for where, node in self.nodes() if isinstance(node, ast.ClassDef)
                   for part in node.body if isinstance(part, ast.FunctionDef)]
        values = [node.attr for where, node in self.nodes()
                  if isinstance(node, ast.Attribute) and isinstance(node.ctx, ast.Store)]
        self.assertEqual(set(methods) & set(values), set())
        for name in values:
            self.assertFalse(any(hasattr(kind, name) for kind in KINDS), name)
        for where, node in self.nodes():
            if isinstance(node, ast.Attribute):
                self.assertIn(node.attr, METHODS | set(methods) | set(values), where)


if __name__ == "__main__":
    unittest.main()
