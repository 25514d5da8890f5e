"""The form of the package's files: those rules of LANGUAGE.md that can be read off a file."""

import ast
import builtins
import pathlib
import re
import unittest

PACKAGE = pathlib.Path(__file__).resolve().parent.parent / "chordsounds"

STATEMENTS = (
    ast.Module, ast.FunctionDef, ast.ClassDef, ast.Assign, ast.AugAssign, ast.If, ast.While, ast.For, ast.Return,
    ast.Break, ast.Continue, ast.Pass, ast.Raise, ast.Try, ast.ExceptHandler, ast.Expr, ast.ImportFrom, ast.alias,
    ast.arguments, ast.arg,
)
EXPRESSIONS = (
    ast.Constant, ast.Name, ast.List, ast.Tuple, ast.Dict, ast.BinOp, ast.UnaryOp, ast.BoolOp, ast.Compare, ast.IfExp,
    ast.Call, ast.keyword, ast.Attribute, ast.Subscript, ast.Slice, ast.ListComp, ast.comprehension, ast.Lambda,
    ast.JoinedStr, ast.FormattedValue, ast.expr_context, ast.operator, ast.unaryop, ast.boolop, ast.cmpop,
)
NOT_USED = (ast.Div, ast.MatMult)
OWN_NAMES = """len range enumerate zip min max sum abs sorted reversed int str bool list tuple dict set frozenset
    isinstance ord repr any all divmod Exception ValueError TypeError KeyError IndexError LookupError
    ZeroDivisionError ArithmeticError OverflowError RuntimeError NotImplementedError AttributeError
    StopIteration""".split()
METHODS = """append clear copy count endswith extend find get index insert isalnum isalpha isdigit islower isspace
    isupper items join keys ljust lower lstrip partition pop remove replace reverse rfind rjust rpartition rsplit
    rstrip setdefault split splitlines startswith strip update upper values zfill bit_length""".split()
NEVER_NAMED = """register mro elements open input version_info with_traceback add_note attrgetter breakpoint builtins
    compile copyright credits delattr dir eval exec exit gc getattr globals hasattr help id importlib license locals
    methodcaller os quit setattr super type vars sys""".split()
NEVER_WRITTEN = re.compile(
    r"\b(type|typing|typing_extensions|enum|Enum|IntEnum|StrEnum|Flag|IntFlag|Generic|Protocol|ABC|ABCMeta|namedtuple"
    r"|NamedTuple|TypedDict|TYPE_CHECKING|abstractmethod)\b|dataclass|overload|contextmanager")
NOT_VALUES = """items keys values pop update append clear extend insert remove reverse setdefault sort args encode
    format""".split()
WALKED = ("zip", "enumerate", "reversed", "range", "items", "keys", "values")
WALKERS = ("list", "tuple", "dict", "sorted", "sum", "any", "all", "enumerate", "zip", "min", "max", "join")


def files():
    return sorted(PACKAGE.glob("*.py"))


def called(call):
    if isinstance(call, ast.Call):
        return call.func.id if isinstance(call.func, ast.Name) else getattr(call.func, "attr", "")
    return ""


def bound_names(tree):
    names = []
    for node in ast.walk(tree):
        if isinstance(node, (ast.FunctionDef, ast.ClassDef)):
            names.append(node.name)
        elif isinstance(node, ast.arg):
            names.append(node.arg)
        elif isinstance(node, ast.Name) and isinstance(node.ctx, ast.Store):
            names.append(node.id)
    return names


def own_methods(trees):
    return {node.name for tree in trees for top in tree.body if isinstance(top, ast.ClassDef) for node in top.body
            if isinstance(node, ast.FunctionDef)}


def own_values(trees):
    return {node.attr for tree in trees for node in ast.walk(tree)
            if isinstance(node, ast.Attribute) and isinstance(node.ctx, ast.Store)}


class Language(unittest.TestCase):
    def setUp(self):
        self.texts = {path.name: path.read_text("utf-8") for path in files()}
        self.trees = {name: ast.parse(text) for name, text in self.texts.items()}

    def nodes(self):
        for name, tree in self.trees.items():
            for node in ast.walk(tree):
                yield f"{name}:{getattr(node, 'lineno', 0)}", node

    def test_files(self):
        self.assertIn("__init__.py", self.texts)
        for path in PACKAGE.iterdir():
            self.assertTrue(path.name == "__pycache__" or path.name in self.texts, path.name)
            self.assertRegex(path.name, r"^[a-z_][a-z0-9_]*(\.py)?$")
            self.assertFalse(hasattr(builtins, path.stem) and path.stem != "__init__", path.name)

    def test_signs_words_and_size(self):
        for name, text in self.texts.items():
            lines = text.split("\n")
            self.assertLessEqual(len(lines), 400, name)
            for number, one in enumerate(lines, 1):
                self.assertLessEqual(len(one), 120, f"{name}:{number}")
                self.assertTrue(all(" " <= sign <= "~" for sign in one), f"{name}:{number}")
                self.assertIsNone(NEVER_WRITTEN.search(one), f"{name}:{number}")

    def test_small_functions_with_plain_parameters(self):
        for where, node in self.nodes():
            if isinstance(node, ast.FunctionDef):
                self.assertLessEqual(node.end_lineno - node.lineno + 1, 40, where)
                self.assertFalse(node.decorator_list, where)
                form = node.args
                self.assertFalse(form.vararg or form.kwarg or form.kwonlyargs or form.posonlyargs, where)

    def test_statements_and_expressions(self):
        for where, node in self.nodes():
            self.assertIsInstance(node, STATEMENTS + EXPRESSIONS, where)
            self.assertNotIsInstance(node, NOT_USED, where)
            if isinstance(node, (ast.For, ast.While)):
                self.assertFalse(node.orelse, where)
            if isinstance(node, ast.Try):
                self.assertFalse(node.finalbody, where)
            if isinstance(node, ast.Assign):
                self.assertEqual(len(node.targets), 1, where)
            if isinstance(node, ast.ListComp):
                self.assertTrue(len(node.generators) == 1 and len(node.generators[0].ifs) <= 1, where)
            if isinstance(node, ast.Constant):
                self.assertTrue(node.value is None or isinstance(node.value, (bool, int, str)), where)
            if isinstance(node, ast.Compare) and any(isinstance(sign, (ast.Is, ast.IsNot)) for sign in node.ops):
                self.assertTrue(all(isinstance(one, ast.Constant) for one in node.comparators), where)
            if isinstance(node, ast.BinOp) and isinstance(node.op, ast.Pow):
                self.assertIsInstance(node.right, ast.Constant, where)

    def test_imports(self):
        drawn = {}
        for name, tree in self.trees.items():
            rows = [node for node in tree.body if isinstance(node, ast.ImportFrom)]
            drawn[name] = [row.module.split(".")[1] + ".py" for row in rows]
            for row in rows:
                self.assertEqual((row.level, row.module.split(".")[0], row.module.count(".")), (0, "chordsounds", 1))
                source = self.trees[row.module.split(".")[1] + ".py"]
                for one in row.names:
                    self.assertIsNone(one.asname)
                    self.assertIn(one.name, bound_names(ast.Module(source.body, [])))
        self.assertEqual(drawn["__init__.py"], [])
        left = dict(drawn)
        while left:
            free = [name for name, others in left.items() if not any(other in left for other in others)]
            self.assertTrue(free, f"files draw from one another: {left}")
            for name in free:
                del left[name]

    def test_top_of_files(self):
        for name, tree in self.trees.items():
            self.assertIsNotNone(ast.get_docstring(tree), name)
            tops = []
            for node in tree.body[1:]:
                self.assertIsInstance(node, (ast.ImportFrom, ast.FunctionDef, ast.ClassDef, ast.Assign), name)
                if isinstance(node, ast.Assign):
                    ast.literal_eval(node.value)
                    tops.append(node.targets[0].id)
                elif isinstance(node, ast.ImportFrom):
                    tops.extend(one.name for one in node.names)
                else:
                    tops.append(node.name)
            self.assertEqual(len(tops), len(set(tops)), name)

    def test_names(self):
        for name, tree in self.trees.items():
            imports = {one.name for node in tree.body if isinstance(node, ast.ImportFrom) for one in node.names}
            classes = {node.name for node in tree.body if isinstance(node, ast.ClassDef)}
            methods = own_methods([tree])
            for bound in bound_names(tree):
                self.assertTrue(re.match(r"^[A-Za-z][A-Za-z0-9_]*$", bound) or bound == "__init__", bound)
                self.assertNotIn(bound, imports, name)
                self.assertNotIn(bound, NEVER_NAMED, name)
                self.assertFalse(hasattr(builtins, bound) and bound not in methods, bound)
            for node in ast.walk(tree):
                if isinstance(node, ast.arg) or isinstance(node, ast.Name) and isinstance(node.ctx, ast.Store):
                    self.assertNotIn(getattr(node, "arg", getattr(node, "id", "")), classes, name)
                if isinstance(node, ast.Name) and hasattr(builtins, node.id):
                    self.assertIn(node.id, OWN_NAMES, name)

    def test_methods_and_values(self):
        methods = own_methods(self.trees.values())
        values = own_values(self.trees.values())
        self.assertFalse(methods & values)
        self.assertFalse(values & set(NOT_VALUES))
        pythons = {one for kind in (str, int, list, dict, set, bytes, tuple) for one in dir(kind)}
        self.assertFalse(((methods - {"__init__"}) | values) & pythons)
        for where, node in self.nodes():
            if isinstance(node, ast.Attribute):
                self.assertIn(node.attr, methods | values | set(METHODS), where)

    def test_walked_at_once_and_sets_not_kept(self):
        for where, tree in self.trees.items():
            allowed = set()
            for node in ast.walk(tree):
                if isinstance(node, (ast.For, ast.comprehension)):
                    allowed.add(node.iter)
                elif called(node) in WALKERS and node.args:
                    allowed.add(node.args[0])
            for node in ast.walk(tree):
                if called(node) in WALKED:
                    self.assertIn(node, allowed, f"{where}:{node.lineno}")
                if called(node) == "set":
                    self.assertTrue(any(called(one) in ("sorted", "len") and one.args == [node]
                                        for one in ast.walk(tree)), f"{where}:{node.lineno}")


if __name__ == "__main__":
    unittest.main()
