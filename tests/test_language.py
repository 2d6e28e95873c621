"""The package keeps to the part of Python that it may use, as far as a look at its files can tell."""

import ast
import builtins
import pathlib
import re
import unittest

PACKAGE = pathlib.Path(__file__).resolve().parent.parent / "flavourruns"

NODES = (
    ast.Module, ast.FunctionDef, ast.ClassDef, ast.arguments, ast.arg, ast.Lambda, ast.Return, ast.Assign,
    ast.AugAssign, ast.For, ast.While, ast.If, ast.Break, ast.Continue, ast.Pass, ast.Raise, ast.Try,
    ast.ExceptHandler, ast.Expr, ast.ImportFrom, ast.alias, ast.BoolOp, ast.BinOp, ast.UnaryOp, ast.IfExp, ast.Dict,
    ast.Set, ast.ListComp, ast.comprehension, ast.Compare, ast.Call, ast.Constant, ast.Attribute, ast.Subscript,
    ast.Name, ast.List, ast.Tuple, ast.Slice, ast.JoinedStr, ast.FormattedValue,
    ast.expr_context, ast.boolop, ast.operator, ast.unaryop, ast.cmpop,
)

OWN_OF_PYTHON = """len range enumerate zip min max sum abs sorted reversed int str bool list tuple dict set frozenset
isinstance ord repr any all divmod Exception ValueError TypeError KeyError IndexError LookupError ZeroDivisionError
ArithmeticError OverflowError RuntimeError NotImplementedError AttributeError StopIteration""".split()

METHODS = """append clear copy count endswith extend find get index insert isalnum isalpha isdigit islower isspace
isupper items join keys ljust lower lstrip partition pop remove replace reverse rfind rjust rpartition rsplit rstrip
setdefault split splitlines startswith strip update upper values zfill bit_length""".split()

TWO_UNDERSCORES = "__init__ __eq__ __repr__ __str__ __len__ __all__ __version__".split()

NOT_USED = """register mro elements open input version_info with_traceback add_note format format_map
attrgetter breakpoint builtins compile copyright credits delattr dir eval exec exit gc getattr globals hasattr help id
importlib license locals methodcaller os quit setattr super vars sys""".split()

WORDS = """type typing typing_extensions enum Enum IntEnum StrEnum Flag IntFlag Generic Protocol ABC ABCMeta namedtuple
NamedTuple TypedDict TYPE_CHECKING abstractmethod""".split()

PARTS_OF_WORDS = "dataclass overload contextmanager".split()

WALKED_AT_ONCE = "zip enumerate reversed range items keys values".split()


def called_name(node):
    if not isinstance(node, ast.Call):
        return None
    return node.func.attr if isinstance(node.func, ast.Attribute) else getattr(node.func, "id", None)


def bound_names(tree):
    for node in ast.walk(tree):
        if isinstance(node, (ast.FunctionDef, ast.ClassDef)):
            yield node.name
        elif isinstance(node, ast.arg):
            yield node.arg
        elif isinstance(node, ast.Name) and isinstance(node.ctx, ast.Store):
            yield node.id
        elif isinstance(node, ast.alias):
            yield node.asname or node.name


class Files(unittest.TestCase):

    def setUp(self):
        self.paths = sorted(path for path in PACKAGE.rglob("*") if "__pycache__" not in path.parts)
        self.texts = {path.name: path.read_bytes().decode("ascii") for path in self.paths}
        self.trees = {name: ast.parse(text) for name, text in self.texts.items()}

    def nodes(self, *kinds):
        for name, tree in self.trees.items():
            for node in ast.walk(tree):
                if isinstance(node, kinds):
                    yield f"{name}:{getattr(node, 'lineno', 0)}", node

    def test_files_and_signs(self):
        self.assertIn("__init__.py", self.texts)
        self.assertIn("line.py", self.texts)
        for name, text in self.texts.items():
            self.assertRegex(name, r"^([a-z][a-z0-9_]*|__init__)\.py$")
            self.assertRegex(text, r"\A[ -~\n]*\Z", name)

    def test_sizes(self):
        for name, text in self.texts.items():
            rows = text.split("\n")
            self.assertLessEqual(len(rows), 400, name)
            self.assertLessEqual(max(len(row) for row in rows), 120, name)
        for where, node in self.nodes(ast.FunctionDef):
            self.assertLessEqual(node.end_lineno - node.lineno + 1, 40, where)

    def test_words(self):
        for name, text in self.texts.items():
            found = set(re.findall(r"\w+", text))
            self.assertEqual(found & set(WORDS), set(), name)
            self.assertFalse([part for part in PARTS_OF_WORDS if part in text], name)

    def test_kinds_of_statements_and_expressions(self):
        for where, node in self.nodes(ast.AST):
            self.assertIsInstance(node, NODES, where)
            self.assertNotIsInstance(node, (ast.Div, ast.MatMult, ast.Pow), where)

    def test_top_of_a_module(self):
        for name, tree in self.trees.items():
            self.assertIsNotNone(ast.get_docstring(tree), name)
            for node in tree.body[1:]:
                self.assertIsInstance(node, (ast.ImportFrom, ast.FunctionDef, ast.ClassDef, ast.Assign), name)
            names = [each for node in tree.body for each in
                     ([node.name] if hasattr(node, "name") else [target.id for target in getattr(node, "targets", [])])]
            self.assertEqual(len(names), len(set(names)), name)

    def test_imports(self):
        for name, tree in self.trees.items():
            drawn = [node for node in ast.walk(tree) if isinstance(node, ast.ImportFrom)]
            self.assertEqual(drawn, tree.body[1:1 + len(drawn)], name)
            for node in drawn:
                self.assertEqual(node.level, 0, name)
                self.assertRegex(node.module, r"^flavourruns\.[a-z]+$", name)
                source = self.trees[node.module.split(".")[1] + ".py"]
                for each in node.names:
                    self.assertIn(each.name, set(bound_names(source)), name)

    def test_functions_and_classes(self):
        for where, node in self.nodes(ast.FunctionDef):
            self.assertEqual(node.decorator_list, [], where)
            self.assertIsNone(ast.get_docstring(node), where)
            given = node.args
            self.assertFalse(given.vararg or given.kwarg or given.kwonlyargs or given.posonlyargs, where)
            self.assertFalse([arg for arg in given.args if arg.annotation] or node.returns, where)
        for where, node in self.nodes(ast.ClassDef):
            self.assertEqual(node.decorator_list, [], where)
            self.assertLessEqual(len(node.bases), 1, where)
            for each in node.body:
                self.assertIsInstance(each, ast.FunctionDef, where)

    def test_statements(self):
        for where, node in self.nodes(ast.Assign):
            self.assertEqual(len(node.targets), 1, where)
            self.assertNotIsInstance(node.targets[0], (ast.Tuple, ast.List), where)
        for where, node in self.nodes(ast.For, ast.While):
            self.assertEqual(node.orelse, [], where)
        for where, node in self.nodes(ast.ListComp):
            self.assertEqual(len(node.generators), 1, where)
            self.assertLessEqual(len(node.generators[0].ifs), 1, where)
        for where, node in self.nodes(ast.Constant):
            self.assertNotIsInstance(node.value, (float, bytes, complex), where)
        for where, node in self.nodes(ast.Compare):
            for operator, side in zip(node.ops, node.comparators):
                if isinstance(operator, (ast.Is, ast.IsNot)):
                    self.assertIsInstance(side, ast.Constant, where)

    def test_names(self):
        for name, tree in self.trees.items():
            for each in bound_names(tree):
                if each not in TWO_UNDERSCORES:
                    self.assertRegex(each, r"^[A-Za-z][A-Za-z0-9_]*$", name)
                    self.assertFalse(hasattr(builtins, each), f"{name}: {each}")
                    self.assertNotIn(each, NOT_USED, name)
        for where, node in self.nodes(ast.Name):
            if hasattr(builtins, node.id):
                self.assertIn(node.id, OWN_OF_PYTHON, where)
            self.assertNotIn(node.id, NOT_USED, where)

    def test_methods_and_values(self):
        own = {each.name for where, node in self.nodes(ast.ClassDef) for each in node.body}
        kept = {node.attr for where, node in self.nodes(ast.Attribute) if isinstance(node.ctx, ast.Store)}
        of_python = {each for kind in (int, str, list, tuple, dict, set, frozenset, bytes) for each in dir(kind)}
        self.assertEqual(own & kept, set())
        self.assertEqual((own | kept) & of_python - set(TWO_UNDERSCORES), set())
        for where, node in self.nodes(ast.Attribute):
            self.assertIn(node.attr, own | kept | set(METHODS), where)
            self.assertNotIn(node.attr, NOT_USED, where)

    def test_walked_at_once(self):
        walked = set()
        for where, node in self.nodes(ast.For, ast.comprehension):
            walked.add(node.iter)
        for where, node in self.nodes(ast.Call):
            if called_name(node) in ("list tuple dict sorted sum any all enumerate zip min max".split()):
                walked.update(node.args[:1])
        for where, node in self.nodes(ast.Call):
            if called_name(node) in WALKED_AT_ONCE:
                self.assertIn(node, walked, where)

    def test_no_set_is_kept(self):
        asked = set()
        for where, node in self.nodes(ast.Call):
            if called_name(node) in ("len", "sorted"):
                asked.update(node.args)
        for where, node in self.nodes(ast.Compare):
            asked.update([node.left] + node.comparators)
        for where, node in self.nodes(ast.Call, ast.Set):
            if isinstance(node, ast.Set) or called_name(node) in ("set", "frozenset"):
                self.assertIn(node, asked, where)


if __name__ == "__main__":
    unittest.main()
