"""That the package keeps to the small part of Python that it's written in, as far as it can be read off its files."""

import ast
import builtins
import os
import re
import unittest

import blockchainbooks

FOLDER = os.path.dirname(blockchainbooks.__file__)

STATEMENTS = (ast.Assign, ast.AugAssign, ast.If, ast.While, ast.For, ast.Return, ast.Break, ast.Continue, ast.Pass,
              ast.Raise, ast.Try, ast.Expr, ast.FunctionDef, ast.ClassDef, ast.ImportFrom)
EXPRESSIONS = (ast.Constant, ast.List, ast.Tuple, ast.Dict, ast.Set, ast.BinOp, ast.UnaryOp, ast.BoolOp, ast.Compare,
               ast.IfExp, ast.Call, ast.Attribute, ast.Subscript, ast.Slice, ast.ListComp, ast.JoinedStr,
               ast.FormattedValue, ast.Lambda, ast.Name)
OWN_NAMES = """len range enumerate zip min max sum abs sorted reversed int str bool list tuple dict set frozenset
    isinstance ord repr any all divmod Exception ValueError TypeError KeyError IndexError LookupError
    ZeroDivisionError ArithmeticError OverflowError RuntimeError NotImplementedError AttributeError
    StopIteration""".split()
METHODS = """append clear copy count endswith extend find get index insert isalnum isalpha isdigit islower isspace
    isupper items join keys ljust lower lstrip partition pop remove replace reverse rfind rjust rpartition rsplit
    rstrip setdefault split splitlines startswith strip update upper values zfill bit_length""".split()
NOWHERE = """register mro elements open input version_info with_traceback add_note attrgetter breakpoint compile delattr
    dir eval exec exit gc getattr globals hasattr help id importlib license locals methodcaller os quit setattr super
    vars sys format format_map""".split()
WORDS = """type typing typing_extensions enum Enum IntEnum StrEnum Flag IntFlag Generic Protocol ABC ABCMeta
    namedtuple NamedTuple TypedDict TYPE_CHECKING abstractmethod""".split()


def sources():
    found = {}
    for name in sorted(os.listdir(FOLDER)):
        if name.endswith(".py"):
            with open(os.path.join(FOLDER, name), encoding="utf-8", newline="") as file:
                found[name] = file.read()
    return found


def bound_at_top(tree):
    names = []
    for node in tree.body:
        if isinstance(node, (ast.FunctionDef, ast.ClassDef)):
            names.append(node.name)
        elif isinstance(node, ast.Assign):
            names.append(node.targets[0].id)
        elif isinstance(node, ast.ImportFrom):
            names += [alias.name for alias in node.names]
    return names


def bound_in(function):
    names = [argument.arg for node in ast.walk(function) if isinstance(node, ast.arguments)
             for argument in node.args]
    return names + [node.id for node in ast.walk(function)
                    if isinstance(node, ast.Name) and isinstance(node.ctx, ast.Store)]


class LanguageTest(unittest.TestCase):
    def setUp(self):
        self.texts = sources()
        self.trees = {name: ast.parse(text) for name, text in self.texts.items()}

    def nodes(self, *kinds):
        for name, tree in self.trees.items():
            for node in ast.walk(tree):
                if isinstance(node, kinds):
                    yield f"{name}:{getattr(node, 'lineno', 0)}", node

    def test_files(self):
        for name in os.listdir(FOLDER):
            if name != "__pycache__":
                self.assertTrue(name == "__init__.py" or re.fullmatch("[a-z][a-z0-9_]*[.]py", name), name)
                self.assertNotIn(name[:-3], dir(builtins))

    def test_signs_and_sizes(self):
        for name, text in self.texts.items():
            self.assertTrue(re.fullmatch("[ -~\n]*", text), name)
            lines = text.splitlines()
            self.assertLessEqual(len(lines), 400, name)
            self.assertLessEqual(max(len(line) for line in lines), 120, name)
        for place, node in self.nodes(ast.FunctionDef):
            self.assertLessEqual(node.end_lineno - node.lineno + 1, 40, place)

    def test_words(self):
        for name, text in self.texts.items():
            words = re.findall("[A-Za-z0-9_]+", text)
            self.assertEqual([word for word in words if word in WORDS], [], name)
            self.assertIsNone(re.search("dataclass|overload|contextmanager", text), name)

    def test_imports(self):
        drawn = {}
        for name, tree in self.trees.items():
            drawn[name] = []
            for node in ast.walk(tree):
                if isinstance(node, ast.ImportFrom):
                    self.assertIn(node, tree.body, name)
                    self.assertEqual(node.level, 0, name)
                    self.assertTrue(node.module.startswith("blockchainbooks."), name)
                    other = node.module.split(".", 1)[1] + ".py"
                    defined = [each for each in self.trees[other].body if not isinstance(each, ast.ImportFrom)]
                    for alias in node.names:
                        self.assertIn(alias.name, bound_at_top(ast.Module(defined, [])), name)
                        self.assertIsNone(alias.asname, name)
                    drawn[name].append(other)
        while drawn:
            leaves = [name for name in drawn if not any(other in drawn for other in drawn[name])]
            self.assertTrue(leaves, f"these draw from one another: {sorted(drawn)}")
            for name in leaves:
                drawn.pop(name)

    def test_statements_and_expressions(self):
        for place, node in self.nodes(ast.stmt):
            self.assertIsInstance(node, STATEMENTS, place)
        for place, node in self.nodes(ast.expr):
            self.assertIsInstance(node, EXPRESSIONS, place)
        for place, node in self.nodes(ast.Assign):
            self.assertEqual(len(node.targets), 1, place)
        for place, node in self.nodes(ast.For, ast.While):
            self.assertEqual(node.orelse, [], place)
        for place, node in self.nodes(ast.Constant):
            self.assertIsInstance(node.value, (int, str, type(None)), place)
        for place, node in self.nodes(ast.BinOp, ast.AugAssign):
            self.assertNotIsInstance(node.op, (ast.Div, ast.MatMult), place)
        for place, node in self.nodes(ast.ListComp):
            self.assertEqual(len(node.generators), 1, place)
            self.assertLessEqual(len(node.generators[0].ifs), 1, place)
        for place, node in self.nodes(ast.Compare):
            if any(isinstance(sign, (ast.Is, ast.IsNot)) for sign in node.ops):
                self.assertIsInstance(node.comparators[0], ast.Constant, place)

    def test_no_text_stands_by_itself_but_at_a_files_top(self):
        for name, tree in self.trees.items():
            self.assertIsNotNone(ast.get_docstring(tree), name)
            for node in ast.walk(tree):
                if isinstance(node, ast.Expr) and node is not tree.body[0]:
                    self.assertIsInstance(node.value, ast.Call, f"{name}:{node.lineno}")

    def test_functions_and_classes(self):
        for place, node in self.nodes(ast.FunctionDef):
            self.assertEqual((node.decorator_list, node.returns), ([], None), place)
        for place, node in self.nodes(ast.arguments):
            self.assertEqual((node.vararg, node.kwarg, node.kwonlyargs, node.posonlyargs), (None, None, [], []), place)
        for place, node in self.nodes(ast.arg):
            self.assertIsNone(node.annotation, place)
        for place, node in self.nodes(ast.ClassDef):
            self.assertEqual((node.decorator_list, node.keywords), ([], []), place)
            self.assertTrue(all(isinstance(each, ast.FunctionDef) for each in node.body), place)

    def test_the_top_of_a_file(self):
        for name, tree in self.trees.items():
            for node in tree.body[1:]:
                kinds = (ast.ImportFrom, ast.FunctionDef, ast.ClassDef, ast.Assign)
                self.assertIsInstance(node, kinds, name)
                if isinstance(node, ast.Assign):
                    for each in ast.walk(node.value):
                        plain = (ast.Constant, ast.Tuple, ast.Name, ast.Load, ast.UnaryOp, ast.USub)
                        self.assertIsInstance(each, plain, name)
            names = bound_at_top(tree)
            self.assertEqual(len(names), len(set(names)), name)

    def test_names(self):
        for name, tree in self.trees.items():
            top = bound_at_top(tree)
            not_local = [node.name for node in tree.body if isinstance(node, ast.ClassDef)]
            for node in tree.body:
                if isinstance(node, ast.ImportFrom):
                    not_local += [alias.name for alias in node.names]
            for function in [node for node in ast.walk(tree) if isinstance(node, ast.FunctionDef)]:
                bound = bound_in(function)
                for each in bound:
                    self.assertTrue(re.fullmatch("[a-z][a-z0-9_]*", each), (name, each))
                    self.assertNotIn(each, dir(builtins) + not_local, (name, each))
                for node in ast.walk(function):
                    if isinstance(node, ast.Name):
                        self.assertIn(node.id, bound + top + OWN_NAMES, (name, node.lineno))
                        self.assertNotIn(node.id, NOWHERE, (name, node.lineno))

    def test_methods_and_values(self):
        methods = []
        values = []
        for _, node in self.nodes(ast.ClassDef):
            own = [each.name for each in node.body]
            self.assertEqual(len(own), len(set(own)), node.name)
            methods += own
        for _, node in self.nodes(ast.Attribute):
            if isinstance(node.ctx, ast.Store):
                values.append(node.attr)
        python_names = [name for kind in (str, int, list, dict, set, bytes, tuple) for name in dir(kind)]
        for each in values:
            self.assertNotIn(each, methods + python_names + NOWHERE)
        for each in methods:
            self.assertTrue(each == "__init__" or each not in python_names + NOWHERE, each)
        for place, node in self.nodes(ast.Attribute):
            self.assertIn(node.attr, methods + values + METHODS, place)

    def test_sets_are_made_on_the_spot(self):
        for place, node in self.nodes(ast.Call):
            for each in ast.walk(node):
                inner = isinstance(each, ast.Call) and isinstance(each.func, ast.Name) and each.func.id == "set"
                if inner and each is not node and each in node.args:
                    self.assertIn(node.func.id, ("sorted", "len"), place)
        for place, node in self.nodes(ast.Assign, ast.Return):
            made = isinstance(node.value, ast.Call) and isinstance(node.value.func, ast.Name)
            self.assertFalse(made and node.value.func.id in ("set", "range", "zip", "enumerate", "reversed"), place)


if __name__ == "__main__":
    unittest.main()
