"""The package keeps to the small part of Python that it's written in, as far as that can be seen file by file."""

import ast
import builtins
import pathlib
import re
import unittest

PACKAGE = pathlib.Path(__file__).resolve().parent.parent / "dryhours"

NODES = (
    "Module Import ImportFrom alias FunctionDef arguments arg Return Assign AugAssign If While For Break Continue Pass "
    "Raise Try ExceptHandler Expr ClassDef BoolOp And Or BinOp Add Sub Mult FloorDiv Mod Pow BitAnd BitOr BitXor "
    "LShift RShift UnaryOp Not USub UAdd Invert Compare Eq NotEq Lt LtE Gt GtE Is IsNot In NotIn IfExp Call keyword "
    "Attribute Subscript Slice List Tuple Dict Set ListComp comprehension JoinedStr FormattedValue Constant Name "
    "Lambda Load Store"
).split()

OWN_NAMES = (
    "len range enumerate zip min max sum abs sorted reversed int str bool list tuple dict set frozenset isinstance "
    "ord repr any all divmod Exception ValueError TypeError KeyError IndexError LookupError ZeroDivisionError "
    "ArithmeticError OverflowError RuntimeError NotImplementedError AttributeError StopIteration"
).split()

METHODS = (
    "append clear copy count endswith extend find get index insert isalnum isalpha isdigit islower isspace isupper "
    "items join keys ljust lower lstrip partition pop remove replace reverse rfind rjust rpartition rsplit rstrip "
    "setdefault split splitlines startswith strip update upper values zfill bit_length"
).split()

WORDS_LEFT_OUT = (
    "type typing typing_extensions enum Enum IntEnum StrEnum Flag IntFlag Generic Protocol ABC ABCMeta namedtuple "
    "NamedTuple TypedDict TYPE_CHECKING abstractmethod"
).split()

PARTS_LEFT_OUT = ("dataclass", "overload", "contextmanager")

NAMES_LEFT_OUT = (
    "register mro elements open input version_info with_traceback add_note attrgetter breakpoint builtins compile "
    "copyright credits delattr dir eval exec exit gc getattr globals hasattr help id importlib license locals "
    "methodcaller os quit setattr super type vars sys format format_map"
).split()

WALKED = ("zip", "enumerate", "reversed", "range")
WALKED_IN = ("list", "tuple", "dict", "sorted", "sum", "any", "all", "enumerate", "zip", "min", "max")


def bound_names(tree):
    names = []
    for node in ast.walk(tree):
        if isinstance(node, (ast.FunctionDef, ast.ClassDef)):
            names.append(node.name)
        elif isinstance(node, ast.arg):
            names.append(node.arg)
        elif isinstance(node, ast.Name) and isinstance(node.ctx, ast.Store):
            names.append(node.id)
        elif isinstance(node, ast.Attribute) and isinstance(node.ctx, ast.Store):
            names.append(node.attr)
    return names


def parents(tree):
    """By each node: the one that it stands in."""
    return {child: node for node in ast.walk(tree) for child in ast.iter_child_nodes(node)}


def called(node):
    """The name that is called, if it's one of its own."""
    if isinstance(node, ast.Call) and isinstance(node.func, ast.Name):
        return node.func.id
    return None


def is_walked_at_once(node, parent):
    if isinstance(parent, (ast.For, ast.comprehension)):
        return parent.iter is node
    return called(parent) in WALKED_IN and parent.args[0] is node


class Language(unittest.TestCase):
    def setUp(self):
        self.files = {path.name: path.read_text("utf-8") for path in PACKAGE.glob("*.py")}
        self.trees = {name: ast.parse(text) for name, text in self.files.items()}

    def test_nothing_but_files_of_python(self):
        lying = [path.name for path in PACKAGE.iterdir() if path.name != "__pycache__"]
        self.assertEqual(sorted(lying), sorted(self.files))
        self.assertIn("__init__.py", lying)
        self.assertIn("beds.py", lying)
        for name in lying:
            self.assertRegex(name, r"^[a-z_][a-z0-9_]*\.py$")
            self.assertFalse(name != "__init__.py" and hasattr(builtins, name[:-3]), name)

    def test_signs_and_size(self):
        for name, text in self.files.items():
            self.assertRegex(text, r"\A[ -~\n]*\Z", name)
            rows = text.split("\n")
            self.assertLessEqual(len(rows), 400, name)
            self.assertLessEqual(max(len(row) for row in rows), 120, name)
            for node in ast.walk(self.trees[name]):
                if isinstance(node, ast.FunctionDef):
                    self.assertLessEqual(node.end_lineno - node.lineno + 1, 40, node.name)

    def test_words_left_out(self):
        for name, text in self.files.items():
            words = re.findall(r"[A-Za-z0-9_]+", text)
            for word in words:
                self.assertNotIn(word, WORDS_LEFT_OUT, name)
                self.assertFalse([part for part in PARTS_LEFT_OUT if part in word], name)

    def test_forms(self):
        for name, tree in self.trees.items():
            for node in ast.walk(tree):
                where = f"{name} {getattr(node, 'lineno', '')}"
                self.assertIn(node.__class__.__name__, NODES, where)
                if isinstance(node, ast.FunctionDef):
                    self.assertEqual(node.decorator_list, [], where)
                    self.assertIsNone(node.args.vararg or node.args.kwarg, where)
                    self.assertEqual(node.args.kwonlyargs, [], where)
                if isinstance(node, (ast.For, ast.While)):
                    self.assertEqual(node.orelse, [], where)
                if isinstance(node, ast.Assign):
                    self.assertEqual(len(node.targets), 1, where)
                if isinstance(node, ast.Constant):
                    self.assertIn(node.value.__class__, (int, str, bool, None.__class__), where)

    def test_imports(self):
        for name, tree in self.trees.items():
            for node in ast.walk(tree):
                self.assertNotIsInstance(node, ast.Import, name)
                if isinstance(node, ast.ImportFrom):
                    self.assertIn(node, tree.body, name)
                    self.assertEqual(node.level, 0, name)
                    self.assertRegex(node.module, r"^dryhours\.[a-z]+$")
                    drawn = self.trees[node.module.split(".")[1] + ".py"]
                    defined = bound_names(ast.Module(drawn.body, []))
                    for alias in node.names:
                        self.assertIn(alias.name, defined, name)
                        self.assertIsNone(alias.asname, name)

    def test_names(self):
        for name, tree in self.trees.items():
            for bound in bound_names(tree):
                if bound != "__init__":
                    self.assertRegex(bound, r"^[A-Za-z][A-Za-z0-9_]*$", name)
                    self.assertFalse(hasattr(builtins, bound), f"{name} {bound}")

    def test_python_s_own_names(self):
        methods = [bound for tree in self.trees.values() for bound in bound_names(tree)]
        for name, tree in self.trees.items():
            for node in ast.walk(tree):
                if isinstance(node, ast.Name) and hasattr(builtins, node.id):
                    self.assertIn(node.id, OWN_NAMES, name)
                if isinstance(node, ast.Call) and isinstance(node.func, ast.Attribute):
                    self.assertIn(node.func.attr, METHODS + methods, name)

    def test_names_left_out(self):
        for name, tree in self.trees.items():
            for node in ast.walk(tree):
                for said in (getattr(node, "id", ""), getattr(node, "attr", ""), getattr(node, "name", "")):
                    self.assertNotIn(said, NAMES_LEFT_OUT, name)

    def test_each_name_once_and_no_local_called_like_a_class_or_an_import(self):
        for name, tree in self.trees.items():
            imports = [alias.name for node in tree.body if isinstance(node, ast.ImportFrom) for alias in node.names]
            defs = [node.name for node in tree.body if isinstance(node, (ast.FunctionDef, ast.ClassDef))]
            given = [node.targets[0].id for node in tree.body if isinstance(node, ast.Assign)]
            top = imports + defs + given
            self.assertEqual(len(top), len(set(top)), name)
            for node in ast.walk(tree):
                if isinstance(node, ast.FunctionDef):
                    inside = bound_names(ast.Module([node.args, *node.body], []))
                    locals_there = set(inside) - {own.attr for own in ast.walk(node) if isinstance(own, ast.Attribute)}
                    self.assertFalse(locals_there & set(top), f"{name} {node.name}")

    def test_no_two_files_draw_from_one_another(self):
        draws = {}
        for name, tree in self.trees.items():
            drawn = [node.module.split(".")[1] + ".py" for node in tree.body if isinstance(node, ast.ImportFrom)]
            draws[name] = set(drawn)
        while draws:
            last_ones = [name for name, drawn in draws.items() if not drawn & set(draws)]
            self.assertTrue(last_ones, draws)
            for name in last_ones:
                draws.pop(name)

    def test_no_name_is_a_method_and_a_value(self):
        methods, values = [], []
        for tree in self.trees.values():
            for node in ast.walk(tree):
                if isinstance(node, ast.ClassDef):
                    own = [method.name for method in node.body if isinstance(method, ast.FunctionDef)]
                    self.assertEqual(len(own), len(set(own)), node.name)
                    methods += own
                if isinstance(node, ast.Attribute) and isinstance(node.ctx, ast.Store):
                    values.append(node.attr)
        self.assertFalse(set(methods) & set(values))
        for own in (str, int, list, dict, set, bytes):
            self.assertFalse(set(values) & set(dir(own)))
            self.assertFalse((set(methods) - {"__init__"}) & set(dir(own)))

    def test_is_and_sets_and_what_is_walked_at_once(self):
        for name, tree in self.trees.items():
            above = parents(tree)
            for node in ast.walk(tree):
                where = f"{name} {getattr(node, 'lineno', '')}"
                if isinstance(node, ast.Compare) and isinstance(node.ops[0], (ast.Is, ast.IsNot)):
                    self.assertIsInstance(node.comparators[0], ast.Constant, where)
                if called(node) in WALKED:
                    self.assertTrue(is_walked_at_once(node, above[node]), where)
                if called(node) == "set":
                    self.assertIn(called(above[node]), ("len", "sorted"), where)
                self.assertNotIsInstance(node, (ast.Set, ast.AnnAssign), where)
                if isinstance(node, ast.ListComp):
                    self.assertEqual(len(node.generators), 1, where)
                    self.assertLessEqual(len(node.generators[0].ifs), 1, where)

    def test_the_top_of_a_file(self):
        for name, tree in self.trees.items():
            self.assertIsNotNone(ast.get_docstring(tree), name)
            for node in tree.body[1:]:
                self.assertIsInstance(node, (ast.ImportFrom, ast.FunctionDef, ast.ClassDef, ast.Assign), name)
                if isinstance(node, ast.Assign):
                    ast.literal_eval(node.value)


if __name__ == "__main__":
    unittest.main()
