"""The form of the package's own files, as far as a walk over them can tell."""

import ast
import builtins
import pathlib
import re
import unittest

PACKAGE = pathlib.Path(__file__).resolve().parent.parent / "playedagain"

NODES = """
    Module ImportFrom alias FunctionDef arguments arg ClassDef Return Assign AugAssign For While If Raise Expr
    Pass Break Continue
    BoolOp BinOp UnaryOp Lambda IfExp Dict List Tuple ListComp comprehension Compare Call FormattedValue JoinedStr
    Constant Attribute Subscript Name Slice keyword Load Store And Or Add Sub Mult Mod FloorDiv
    Not USub Eq NotEq Lt LtE Gt GtE Is IsNot In NotIn
""".split()

OWN_NAMES = """
    len range enumerate zip min max sum abs sorted reversed int str bool list tuple dict set frozenset isinstance ord
    repr any all divmod Exception ValueError TypeError KeyError IndexError LookupError ZeroDivisionError
    ArithmeticError OverflowError RuntimeError NotImplementedError AttributeError StopIteration
""".split()

METHODS = """
    append clear copy count endswith extend find get index insert isalnum isalpha isdigit islower isspace isupper
    items join keys ljust lower lstrip partition pop remove replace reverse rfind rjust rpartition rsplit rstrip
    setdefault split splitlines startswith strip update upper values zfill bit_length
""".split()

WORDS_OUT = """
    type typing typing_extensions enum Enum IntEnum StrEnum Flag IntFlag Generic Protocol ABC ABCMeta namedtuple
    NamedTuple TypedDict TYPE_CHECKING abstractmethod
""".split()

NAMES_OUT = "register mro elements open input version_info with_traceback add_note format format_map".split()

WALKED_AT_ONCE = "zip enumerate reversed range".split()
WALKERS = "list tuple dict sorted sum any all enumerate zip min max".split()


def files():
    return sorted(path for path in PACKAGE.rglob("*") if "__pycache__" not in path.parts and path.is_file())


def bound_in(tree):
    """Every name that the file gives a value to, in whatever way."""
    for node in ast.walk(tree):
        if isinstance(node, (ast.FunctionDef, ast.ClassDef)):
            yield node.name
        elif isinstance(node, ast.arg):
            yield node.arg
        elif isinstance(node, ast.Name) and isinstance(node.ctx, ast.Store):
            yield node.id
        elif isinstance(node, ast.alias):
            yield node.asname or node.name


def imports_in(tree):
    """The rows of a file's imports, wherever they stand."""
    return [node for node in ast.walk(tree) if isinstance(node, (ast.Import, ast.ImportFrom))]


def defined_at_top(tree):
    """The names that a file's top gives a value to, other than by an import."""
    return [node.targets[0].id if isinstance(node, ast.Assign) else node.name
            for node in tree.body if isinstance(node, (ast.Assign, ast.FunctionDef, ast.ClassDef))]


def imported_at_top(tree):
    return [part.name for row in imports_in(tree) for part in row.names]


def locals_of(function):
    """The names of a function's parameters and locals."""
    return [node.arg for node in ast.walk(function) if isinstance(node, ast.arg)] + \
        [node.id for node in ast.walk(function) if isinstance(node, ast.Name) and isinstance(node.ctx, ast.Store)]


def attributes_in(tree, context):
    return {node.attr for node in ast.walk(tree) if isinstance(node, ast.Attribute) and isinstance(node.ctx, context)}


class Form(unittest.TestCase):
    def setUp(self):
        self.texts = {path: path.read_text(encoding="utf-8") for path in files()}
        self.trees = {path: ast.parse(text) for path, text in self.texts.items()}

    def each_node(self):
        for path, tree in self.trees.items():
            for node in ast.walk(tree):
                yield f"{path.name}:{getattr(node, 'lineno', 0)}", node

    def test_files(self):
        self.assertIn("recordings.py", [path.name for path in self.texts])
        for path in self.texts:
            self.assertEqual(path.parent, PACKAGE)
            self.assertRegex(path.name, r"\A([a-z][a-z0-9_]*|__init__)\.py\Z")
            self.assertNotRegex(path.stem, r"\A(test.*|site|conftest|sitecustomize|usercustomize)\Z")
            self.assertFalse(path.stem != "__init__" and hasattr(builtins, path.stem), path)

    def test_imports(self):
        by_module = {f"playedagain.{path.stem}": tree for path, tree in self.trees.items()}
        for path, tree in self.trees.items():
            for row in imports_in(tree):
                self.assertIn(row, tree.body, path)
                self.assertIsInstance(row, ast.ImportFrom, path)
                self.assertEqual(row.level, 0, path)
                self.assertIn(row.module, by_module, path)
                for part in row.names:
                    self.assertIsNone(part.asname, path)
                    self.assertIn(part.name, defined_at_top(by_module[row.module]), path)
            used = {node.id for node in ast.walk(tree) if isinstance(node, ast.Name)}
            self.assertEqual(set(imported_at_top(tree)) - used, set(), path)

    def test_no_two_files_draw_from_one_another(self):
        drawn = {f"playedagain.{path.stem}": {row.module for row in imports_in(tree)}
                 for path, tree in self.trees.items()}
        self.assertEqual(drawn["playedagain.__init__"], set())
        while drawn:
            free = [name for name in drawn if not drawn[name] & set(drawn)]
            self.assertNotEqual(free, [], drawn)
            drawn = {name: drawn[name] for name in drawn if name not in free}

    def test_no_local_is_called_like_a_class_or_an_import(self):
        for path, tree in self.trees.items():
            classes = [node.name for node in tree.body if isinstance(node, ast.ClassDef)]
            for node in ast.walk(tree):
                if isinstance(node, ast.FunctionDef):
                    self.assertEqual(set(locals_of(node)) & set(classes + imported_at_top(tree)), set(), path)

    def test_size_and_signs(self):
        for path, text in self.texts.items():
            rows = text.split("\n")
            self.assertLessEqual(len(rows), 400, path)
            self.assertLessEqual(max(len(row) for row in rows), 120, path)
            self.assertRegex(text, r"\A[ -~\n]*\Z", path)
        for where, node in self.each_node():
            if isinstance(node, ast.FunctionDef):
                self.assertLessEqual(node.end_lineno - node.lineno + 1, 40, where)

    def test_kinds_of_statement_and_expression(self):
        for where, node in self.each_node():
            self.assertIn(node.__class__.__name__, NODES, where)
            if isinstance(node, ast.Constant):
                self.assertIn(node.value.__class__, (int, str, bool, None.__class__), where)
            if isinstance(node, ast.Assign):
                self.assertEqual(len(node.targets), 1, where)
            if isinstance(node, ast.comprehension):
                self.assertLessEqual(len(node.ifs), 1, where)
            if isinstance(node, (ast.For, ast.While)):
                self.assertEqual(node.orelse, [], where)
            if isinstance(node, (ast.FunctionDef, ast.ClassDef)):
                self.assertEqual(node.decorator_list, [], where)
            if isinstance(node, ast.arguments):
                self.assertEqual((node.vararg, node.kwarg, node.kwonlyargs, node.posonlyargs),
                                 (None, None, [], []), where)

    def test_names(self):
        for path, tree in self.trees.items():
            bound = set(bound_in(tree))
            for name in bound - {"__init__"}:
                self.assertRegex(name, r"\A[A-Za-z][A-Za-z0-9_]*\Z", path)
                self.assertFalse(hasattr(builtins, name), name)
            for node in ast.walk(tree):
                if isinstance(node, ast.Name) and node.id not in bound:
                    self.assertIn(node.id, OWN_NAMES, path)

    def test_names_of_a_files_top_are_bound_once(self):
        for path, tree in self.trees.items():
            names = defined_at_top(tree) + imported_at_top(tree)
            self.assertEqual(len(names), len(set(names)), path)

    def test_walked_at_once(self):
        for path, tree in self.trees.items():
            walked = []
            for node in ast.walk(tree):
                if isinstance(node, (ast.For, ast.comprehension)):
                    walked.append(node.iter)
                elif isinstance(node, ast.Call) and isinstance(node.func, ast.Name) and node.func.id in WALKERS:
                    walked.extend(node.args)
            for node in ast.walk(tree):
                if isinstance(node, ast.Call) and isinstance(node.func, ast.Name) and node.func.id in WALKED_AT_ONCE:
                    self.assertIn(node, walked, f"{path.name}:{node.lineno}")

    def test_no_name_is_a_method_and_a_value(self):
        methods = {part.name for where, node in self.each_node() if isinstance(node, ast.ClassDef)
                   for part in node.body if isinstance(part, ast.FunctionDef)}
        values = set().union(*[attributes_in(tree, ast.Store) for tree in self.trees.values()])
        self.assertEqual(methods & values, set())
        for path, tree in self.trees.items():
            self.assertEqual(attributes_in(tree, ast.Load) - values - methods - set(METHODS), set(), path)
        for name in methods | values:
            taken = [kind for kind in (str, int, list, dict, set, bytes, tuple) if hasattr(kind, name)]
            self.assertTrue(name == "__init__" or not taken, name)

    def test_words_and_names_that_are_out(self):
        for path, text in self.texts.items():
            words = re.findall(r"\w+", text)
            self.assertEqual(set(words) & set(WORDS_OUT), set(), path)
            self.assertNotRegex(text, "dataclass|overload|contextmanager", path)
        for where, node in self.each_node():
            name = getattr(node, "id", getattr(node, "attr", getattr(node, "name", "")))
            self.assertNotIn(name, NAMES_OUT, where)

    def test_is_beside_none_true_false_alone(self):
        for where, node in self.each_node():
            if isinstance(node, ast.Compare) and isinstance(node.ops[0], (ast.Is, ast.IsNot)):
                self.assertIsInstance(node.comparators[0], ast.Constant, where)

    def test_no_lists_or_dicts_at_a_files_top(self):
        for path, tree in self.trees.items():
            for node in tree.body:
                if isinstance(node, ast.Assign):
                    ast.literal_eval(node.value)
                    self.assertNotIsInstance(node.value, (ast.List, ast.Dict), path)


if __name__ == "__main__":
    unittest.main()
