"""What can be seen from outside of the form that the package's own files keep to."""

import ast
import pathlib
import re
import unittest

PACKAGE = pathlib.Path(__file__).resolve().parent.parent / "spellsame"

BUILT_IN = set(
    "len range enumerate zip min max sum abs sorted reversed int str bool list tuple dict set frozenset "
    "isinstance ord repr any all divmod Exception ValueError TypeError KeyError IndexError LookupError "
    "ZeroDivisionError ArithmeticError OverflowError RuntimeError NotImplementedError AttributeError "
    "StopIteration".split())

METHODS = set(
    "append clear copy count endswith extend find get index insert isalnum isalpha isdigit islower isspace "
    "isupper items join keys ljust lower lstrip partition pop remove replace reverse rfind rjust rpartition "
    "rsplit rstrip setdefault split splitlines startswith strip update upper values zfill bit_length".split())

WORDS_THAT_STAND_NOWHERE = re.compile(
    r"\b(type|typing|typing_extensions|enum|Enum|IntEnum|StrEnum|Flag|IntFlag|Generic|Protocol|ABC|ABCMeta|"
    r"namedtuple|NamedTuple|TypedDict|TYPE_CHECKING|abstractmethod)\b|dataclass|overload|contextmanager")

INTERFACE = {
    "dm_ahead": ["d", "row"],
    "dm_least": ["m", "d"],
    "dm_count": ["m", "d"],
    "dm_ones": ["a", "b"],
}

# The names that an object of the package's own may not use for a method or a value, as Python's own values have them.
TAKEN = {name for kind in (str, int, list, tuple, dict, set, frozenset, bytes) for name in dir(kind)}

# The package has functions and plain classes over lists and texts and no more: narrower than the whole language.
NODES = (
    ast.Module, ast.ClassDef, ast.FunctionDef, ast.arguments, ast.arg, ast.Assign, ast.AugAssign, ast.If, ast.While,
    ast.For, ast.Return, ast.Break, ast.Continue, ast.Expr, ast.Constant, ast.Name, ast.List, ast.Tuple, ast.Dict,
    ast.BinOp, ast.UnaryOp, ast.BoolOp, ast.Compare, ast.IfExp, ast.Call, ast.Attribute, ast.Subscript,
    ast.Slice, ast.ListComp, ast.comprehension, ast.expr_context, ast.operator, ast.unaryop, ast.boolop, ast.cmpop)

NODES_LEFT_OUT = (ast.Div, ast.MatMult)


def sources():
    return sorted(PACKAGE.glob("*.py"))


def trees():
    return [(path.name, ast.parse(path.read_text())) for path in sources()]


def bound_names(tree):
    names = set()
    for node in ast.walk(tree):
        if isinstance(node, ast.Name) and isinstance(node.ctx, ast.Store):
            names.add(node.id)
        elif isinstance(node, ast.arg):
            names.add(node.arg)
        elif isinstance(node, (ast.FunctionDef, ast.ClassDef)):
            names.add(node.name)
    return names - {"__init__"}


def classes(tree):
    return [node for node in tree.body if isinstance(node, ast.ClassDef)]


def own_methods(tree):
    return {part.name for node in classes(tree) for part in node.body if isinstance(part, ast.FunctionDef)}


def own_values(tree):
    """The names of what objects keep: those that are given a value anywhere."""
    return {node.attr for node in ast.walk(tree)
            if isinstance(node, ast.Attribute) and isinstance(node.ctx, ast.Store)}


class Language(unittest.TestCase):
    def test_the_package_holds_its_own_files_alone(self):
        names = sorted(path.name for path in PACKAGE.iterdir() if path.name != "__pycache__")
        self.assertEqual(names, ["__init__.py", "dominoes.py"])

    def test_sizes_and_signs(self):
        for path in sources():
            text = path.read_text()
            lines = text.split("\n")
            self.assertLessEqual(len(lines), 400, path.name)
            for number, line in enumerate(lines, start=1):
                self.assertLessEqual(len(line), 120, (path.name, number))
                self.assertRegex(line, r"\A[ -~]*\Z", (path.name, number))
                self.assertIsNone(WORDS_THAT_STAND_NOWHERE.search(line), (path.name, number))

    def test_functions_are_short_and_plain(self):
        for name, tree in trees():
            for node in ast.walk(tree):
                if isinstance(node, ast.FunctionDef):
                    self.assertLessEqual(node.end_lineno - node.lineno + 1, 40, (name, node.name))
                    self.assertEqual(node.decorator_list, [], (name, node.name))
                    plain = node.args
                    self.assertFalse(plain.vararg or plain.kwarg or plain.kwonlyargs or plain.posonlyargs)

    def test_only_plain_forms_and_no_import(self):
        for name, tree in trees():
            for node in ast.walk(tree):
                place = (name, getattr(node, "lineno", None), node)
                self.assertIsInstance(node, NODES, place)
                self.assertNotIsInstance(node, NODES_LEFT_OUT, place)
                if isinstance(node, ast.Constant):
                    self.assertIn(type(node.value), (int, str, bool, type(None)), place)
                if isinstance(node, (ast.For, ast.While)):
                    self.assertEqual(node.orelse, [], place)
                if isinstance(node, ast.Compare) and any(isinstance(op, (ast.Is, ast.IsNot)) for op in node.ops):
                    self.assertIsNone(ast.literal_eval(node.comparators[0]), place)
                if isinstance(node, ast.Assign):
                    self.assertEqual(len(node.targets), 1, place)
                    self.assertNotIsInstance(node.targets[0], (ast.Tuple, ast.List), place)
                if isinstance(node, ast.Attribute):
                    self.assertIn(node.attr, METHODS | own_methods(tree) | own_values(tree), place)

    def test_methods_are_called_where_they_stand(self):
        for name, tree in trees():
            called = [node.func for node in ast.walk(tree) if isinstance(node, ast.Call)]
            for node in ast.walk(tree):
                if isinstance(node, ast.Attribute) and node.attr in METHODS | own_methods(tree):
                    self.assertIn(node, called, (name, node.lineno))

    def test_classes_are_plain(self):
        for name, tree in trees():
            methods = own_methods(tree) - {"__init__"}
            self.assertEqual(methods & own_values(tree), set(), name)
            self.assertEqual((methods | own_values(tree)) & TAKEN, set(), name)
            for node in classes(tree):
                self.assertEqual((node.decorator_list, node.bases, node.keywords), ([], [], []), node.name)
                for part in node.body[1:]:
                    self.assertIsInstance(part, ast.FunctionDef, node.name)
                self.assertIsInstance(ast.literal_eval(node.body[0].value), str, node.name)

    def test_what_the_top_of_a_file_holds_cannot_be_changed(self):
        for name, tree in trees():
            for node in tree.body:
                if isinstance(node, ast.Assign):
                    self.assertIsInstance(ast.literal_eval(node.value), (int, str, tuple), (name, node.lineno))

    def test_names(self):
        for name, tree in trees():
            own = bound_names(tree)
            for bound in own:
                self.assertRegex(bound, r"\A[A-Za-z][A-Za-z0-9_]*\Z", name)
                self.assertNotIn(bound, dir(__import__("builtins")), name)
            for node in ast.walk(tree):
                if isinstance(node, ast.Name):
                    self.assertIn(node.id, own | BUILT_IN, (name, node.lineno))

    def test_the_top_of_a_file_is_bound_once_to_plain_values(self):
        for name, tree in trees():
            seen = []
            for node in tree.body:
                if isinstance(node, ast.Assign):
                    seen.append(node.targets[0].id)
                    ast.literal_eval(node.value)
                elif isinstance(node, (ast.FunctionDef, ast.ClassDef)):
                    seen.append(node.name)
                else:
                    self.assertIs(node, tree.body[0], name)
                    self.assertIsInstance(ast.literal_eval(node.value), str, name)
            self.assertEqual(len(seen), len(set(seen)), name)


class Interface(unittest.TestCase):
    def test_arguments_are_called_as_the_document_says(self):
        functions = {node.name: node for name, tree in trees() for node in tree.body
                     if isinstance(node, ast.FunctionDef)}
        for name, arguments in INTERFACE.items():
            self.assertEqual([a.arg for a in functions[name].args.args], arguments, name)
            self.assertEqual(functions[name].args.defaults, [], name)


if __name__ == "__main__":
    unittest.main()
