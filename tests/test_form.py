"""The form of the package's own files, as far as a walk over them can tell."""

import ast
import builtins
import pathlib
import re
import unittest

PACKAGE = pathlib.Path(__file__).resolve().parent.parent / "playedagain"

NODES = """
    Module FunctionDef arguments arg ClassDef Return Assign AugAssign For While If Raise Expr Pass Break Continue
    BoolOp BinOp UnaryOp Lambda IfExp Dict List Tuple ListComp comprehension Compare Call FormattedValue JoinedStr
    Constant Attribute Subscript Name Slice keyword Load Store And Or Add Sub Mult Mod FloorDiv
    Not USub Eq NotEq Lt LtE Gt GtE Is IsNot In NotIn
""".split()

OWN_NAMES = """
    len range enumerate zip min max sum abs sorted reversed int str bool list tuple dict set frozenset isinstance ord
    repr any all divmod Exception ValueError TypeError KeyError IndexError LookupError ZeroDivisionError
    ArithmeticError OverflowError RuntimeError NotImplementedError AttributeError StopIteration
""".split()

METHODS = """
    append clear copy count endswith extend find get index insert isalnum isalpha isdigit islower isspace isupper
    items join keys ljust lower lstrip partition pop remove replace reverse rfind rjust rpartition rsplit rstrip
    setdefault split splitlines startswith strip update upper values zfill bit_length
""".split()

WORDS_OUT = """
    type typing typing_extensions enum Enum IntEnum StrEnum Flag IntFlag Generic Protocol ABC ABCMeta namedtuple
    NamedTuple TypedDict TYPE_CHECKING abstractmethod
""".split()

NAMES_OUT = "register mro elements open input version_info with_traceback add_note format format_map".split()


def files():
    return sorted(path for path in PACKAGE.rglob("*") if "__pycache__" not in path.parts and path.is_file())


def bound_in(tree):
    """Every name that the file gives a value to, in whatever way."""
    for node in ast.walk(tree):
        if isinstance(node, (ast.FunctionDef, ast.ClassDef)):
            yield node.name
        elif isinstance(node, ast.arg):
            yield node.arg
        elif isinstance(node, ast.Name) and isinstance(node.ctx, ast.Store):
            yield node.id


def attributes_in(tree, context):
    return {node.attr for node in ast.walk(tree) if isinstance(node, ast.Attribute) and isinstance(node.ctx, context)}


class Form(unittest.TestCase):
    def setUp(self):
        self.texts = {path: path.read_text(encoding="utf-8") for path in files()}
        self.trees = {path: ast.parse(text) for path, text in self.texts.items()}

    def each_node(self):
        for path, tree in self.trees.items():
            for node in ast.walk(tree):
                yield f"{path.name}:{getattr(node, 'lineno', 0)}", node

    def test_files(self):
        self.assertEqual([path.name for path in self.texts], ["__init__.py", "recordings.py"])

    def test_size_and_signs(self):
        for path, text in self.texts.items():
            rows = text.split("\n")
            self.assertLessEqual(len(rows), 400, path)
            self.assertLessEqual(max(len(row) for row in rows), 120, path)
            self.assertRegex(text, r"\A[ -~\n]*\Z", path)
        for where, node in self.each_node():
            if isinstance(node, ast.FunctionDef):
                self.assertLessEqual(node.end_lineno - node.lineno + 1, 40, where)

    def test_kinds_of_statement_and_expression(self):
        for where, node in self.each_node():
            self.assertIn(node.__class__.__name__, NODES, where)
            if isinstance(node, ast.Constant):
                self.assertIn(node.value.__class__, (int, str, bool, None.__class__), where)
            if isinstance(node, ast.Assign):
                self.assertEqual(len(node.targets), 1, where)
            if isinstance(node, ast.comprehension):
                self.assertLessEqual(len(node.ifs), 1, where)
            if isinstance(node, (ast.For, ast.While)):
                self.assertEqual(node.orelse, [], where)
            if isinstance(node, (ast.FunctionDef, ast.ClassDef)):
                self.assertEqual(node.decorator_list, [], where)
            if isinstance(node, ast.arguments):
                self.assertEqual((node.vararg, node.kwarg, node.kwonlyargs, node.posonlyargs),
                                 (None, None, [], []), where)

    def test_names(self):
        for path, tree in self.trees.items():
            bound = set(bound_in(tree))
            for name in bound - {"__init__"}:
                self.assertRegex(name, r"\A[A-Za-z][A-Za-z0-9_]*\Z", path)
                self.assertFalse(hasattr(builtins, name), name)
            for node in ast.walk(tree):
                if isinstance(node, ast.Name) and node.id not in bound:
                    self.assertIn(node.id, OWN_NAMES, path)

    def test_names_of_a_files_top_are_bound_once(self):
        for path, tree in self.trees.items():
            names = [node.targets[0].id if isinstance(node, ast.Assign) else node.name
                     for node in tree.body if not isinstance(node, ast.Expr)]
            self.assertEqual(len(names), len(set(names)), path)

    def test_no_name_is_a_method_and_a_value(self):
        methods = {part.name for where, node in self.each_node() if isinstance(node, ast.ClassDef)
                   for part in node.body if isinstance(part, ast.FunctionDef)}
        for path, tree in self.trees.items():
            values = attributes_in(tree, ast.Store)
            self.assertEqual(methods & values, set(), path)
            self.assertEqual(attributes_in(tree, ast.Load) - values - methods - set(METHODS), set(), path)
            for name in methods | values:
                taken = [kind for kind in (str, int, list, dict, set, bytes, tuple) if hasattr(kind, name)]
                self.assertTrue(name == "__init__" or not taken, name)

    def test_words_and_names_that_are_out(self):
        for path, text in self.texts.items():
            words = re.findall(r"\w+", text)
            self.assertEqual(set(words) & set(WORDS_OUT), set(), path)
            self.assertNotRegex(text, "dataclass|overload|contextmanager", path)
        for where, node in self.each_node():
            name = getattr(node, "id", getattr(node, "attr", getattr(node, "name", "")))
            self.assertNotIn(name, NAMES_OUT, where)

    def test_is_beside_none_true_false_alone(self):
        for where, node in self.each_node():
            if isinstance(node, ast.Compare) and isinstance(node.ops[0], (ast.Is, ast.IsNot)):
                self.assertIsInstance(node.comparators[0], ast.Constant, where)

    def test_no_lists_or_dicts_at_a_files_top(self):
        for path, tree in self.trees.items():
            for node in tree.body:
                if isinstance(node, ast.Assign):
                    ast.literal_eval(node.value)
                    self.assertNotIsInstance(node.value, (ast.List, ast.Dict), path)


if __name__ == "__main__":
    unittest.main()
