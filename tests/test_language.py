"""The package's own files against what of the language rules can be seen from outside."""

import ast
import re
import unittest
from pathlib import Path

PACKAGE = Path(__file__).resolve().parent.parent / "foldsheets"

STATEMENTS = (
    ast.Assign, ast.AugAssign, ast.If, ast.While, ast.For, ast.Return, ast.Break, ast.Continue, ast.Pass, ast.Raise,
    ast.Try, ast.Expr, ast.FunctionDef, ast.ClassDef, ast.ImportFrom,
)
EXPRESSIONS = (
    ast.Constant, ast.Name, ast.List, ast.Tuple, ast.Dict, ast.BinOp, ast.UnaryOp, ast.BoolOp, ast.Compare, ast.IfExp,
    ast.Call, ast.Attribute, ast.Subscript, ast.Slice, ast.ListComp, ast.JoinedStr, ast.FormattedValue, ast.Lambda,
)
OWN_NAMES = set("""
    len range enumerate zip min max sum abs sorted reversed int str bool list tuple dict set frozenset isinstance ord
    repr any all divmod Exception ValueError TypeError KeyError IndexError LookupError ZeroDivisionError
    ArithmeticError OverflowError RuntimeError NotImplementedError AttributeError StopIteration
""".split())
METHODS = set("""
    append clear copy count endswith extend find get index insert isalnum isalpha isdigit islower isspace isupper items
    join keys ljust lower lstrip partition pop remove replace reverse rfind rjust rpartition rsplit rstrip setdefault
    split splitlines startswith strip update upper values zfill bit_length
""".split())
UNWRITTEN = re.compile(
    r"\b(type|typing|typing_extensions|enum|Enum|IntEnum|StrEnum|Flag|IntFlag|Generic|Protocol|ABC|ABCMeta|namedtuple"
    r"|NamedTuple|TypedDict|TYPE_CHECKING|abstractmethod)\b|dataclass|overload|contextmanager"
)
UNUSED_NAMES = set("""
    attrgetter breakpoint builtins chr compile copyright credits delattr dir eval exec exit frozenset gc getattr globals
    hasattr help id importlib license locals methodcaller os quit set setattr super sys type vars print
    register mro elements open input version_info with_traceback add_note
""".split())
UNUSED_VALUES = set("""
    items keys values pop update append clear extend insert remove reverse setdefault sort args encode format
    register mro elements open input version_info with_traceback add_note format_map
""".split())
WALKS = ("zip", "enumerate", "reversed", "range")
WALKERS = ("list", "tuple", "dict", "sorted", "sum", "any", "all", "enumerate", "zip", "min", "max")
BUILT_IN = set(dir(__builtins__) if not isinstance(__builtins__, dict) else __builtins__)


def files():
    return sorted(path for path in PACKAGE.rglob("*") if path.is_file() and "__pycache__" not in path.parts)


def trees():
    return [(path.name, ast.parse(path.read_text())) for path in files()]


def nodes(kinds):
    return [(name, node) for name, tree in trees() for node in ast.walk(tree) if isinstance(node, kinds)]


def top_names(tree):
    found = []
    for node in tree.body:
        if isinstance(node, (ast.FunctionDef, ast.ClassDef)):
            found.append(node.name)
        elif isinstance(node, ast.Assign):
            found.append(node.targets[0].id)
    return found


def bound_names(tree):
    found = []
    for node in ast.walk(tree):
        if isinstance(node, (ast.FunctionDef, ast.ClassDef)):
            found.append(node.name)
        elif isinstance(node, ast.arg):
            found.append(node.arg)
        elif isinstance(node, ast.Name) and isinstance(node.ctx, ast.Store):
            found.append(node.id)
        elif isinstance(node, ast.alias):
            found.append(node.asname or node.name)
    return found


class Files(unittest.TestCase):
    def test_names(self):
        for path in files():
            self.assertRegex(path.name, r"\A([a-z][a-z0-9_]*|__init__|__main__)\.py\Z")
            self.assertNotIn(path.stem, BUILT_IN)

    def test_signs_and_lengths(self):
        for path in files():
            text = path.read_bytes().decode("ascii")
            self.assertEqual([sign for sign in text if not (" " <= sign <= "~" or sign == "\n")], [], path)
            lines = text.splitlines()
            self.assertLessEqual(len(lines), 400, path)
            self.assertLessEqual(max(map(len, lines), default=0), 120, path)
            self.assertIsNone(UNWRITTEN.search(text), path)

    def test_functions_are_short(self):
        for name, node in nodes(ast.FunctionDef):
            self.assertLessEqual(node.end_lineno - node.lineno + 1, 40, (name, node.name))


class Statements(unittest.TestCase):
    def test_kinds(self):
        for name, node in nodes(ast.stmt):
            self.assertIsInstance(node, STATEMENTS, (name, node.lineno))

    def test_kinds_of_expressions(self):
        for name, node in nodes(ast.expr):
            self.assertIsInstance(node, EXPRESSIONS, (name, node.lineno))

    def test_one_target_and_no_else_behind_a_loop(self):
        for name, node in nodes(ast.Assign):
            self.assertEqual(len(node.targets), 1, (name, node.lineno))
            self.assertNotIsInstance(node.targets[0], (ast.Tuple, ast.List), (name, node.lineno))
        for name, node in nodes((ast.For, ast.While)):
            self.assertEqual(node.orelse, [], (name, node.lineno))

    def test_a_text_by_itself_opens_a_file_alone(self):
        for name, tree in trees():
            opening = tree.body[0] if tree.body else None
            for node in ast.walk(tree):
                if isinstance(node, ast.Expr) and node is not opening:
                    self.assertIsInstance(node.value, ast.Call, (name, node.lineno))

    def test_imports_are_the_package_s_own(self):
        for name, node in nodes(ast.ImportFrom):
            self.assertEqual(node.level, 0, name)
            self.assertRegex(node.module, r"\Afoldsheets\.[a-z]+\Z", name)

    def test_plain_functions(self):
        for name, node in nodes(ast.FunctionDef):
            arguments = node.args
            self.assertEqual(node.decorator_list, [], (name, node.name))
            self.assertIsNone(node.returns, (name, node.name))
            self.assertEqual((arguments.vararg, arguments.kwarg, arguments.kwonlyargs, arguments.posonlyargs),
                             (None, None, [], []), (name, node.name))

    def test_comprehensions_are_plain(self):
        for name, node in nodes(ast.ListComp):
            self.assertEqual(len(node.generators), 1, (name, node.lineno))
            self.assertLessEqual(len(node.generators[0].ifs), 1, (name, node.lineno))

    def test_no_float_no_division_no_open_power(self):
        for name, node in nodes(ast.Constant):
            self.assertIsInstance(node.value, (int, str, bool, type(None)), (name, node.lineno))
        for name, node in nodes((ast.BinOp, ast.AugAssign)):
            self.assertNotIsInstance(node.op, (ast.Div, ast.MatMult), (name, node.lineno))
            self.assertNotIsInstance(node.op, (ast.Pow, ast.LShift), (name, node.lineno))

    def test_is_stands_beside_none_true_and_false(self):
        for name, node in nodes(ast.Compare):
            for operator, right in zip(node.ops, node.comparators):
                if isinstance(operator, (ast.Is, ast.IsNot)):
                    self.assertIsInstance(right, ast.Constant, (name, node.lineno))


    def test_the_top_of_a_file(self):
        for name, tree in trees():
            self.assertIsInstance(ast.get_docstring(tree), str, name)
            for node in tree.body[1:]:
                self.assertIsInstance(node, (ast.ImportFrom, ast.FunctionDef, ast.ClassDef, ast.Assign), name)
                if isinstance(node, ast.Assign):
                    ast.literal_eval(node.value)
                    # Lists and dicts of a file's top have none within; a tuple can't be changed by a def.
                    within = [each for each in ast.walk(node.value) if isinstance(each, (ast.List, ast.Dict))]
                    self.assertLessEqual(len(within), 1, (name, node.lineno))

    def test_no_two_files_draw_from_one_another(self):
        drawn = {path.stem: set() for path in files()}
        for name, node in nodes(ast.ImportFrom):
            drawn[name[:-len(".py")]].add(node.module.split(".")[1])
        while drawn:
            ready = [name for name, others in drawn.items() if not others & set(drawn)]
            self.assertNotEqual(ready, [], drawn)
            for name in ready:
                del drawn[name]

    def test_a_name_is_drawn_from_the_file_that_defines_it(self):
        defined = {name[:-len(".py")]: top_names(tree) for name, tree in trees()}
        for name, node in nodes(ast.ImportFrom):
            for alias in node.names:
                self.assertIsNone(alias.asname, name)
                self.assertIn(alias.name, defined[node.module.split(".")[1]], name)

    def test_texts_are_plain(self):
        for name, node in nodes(ast.Constant):
            if isinstance(node.value, str):
                self.assertNotIn("%", node.value, (name, node.lineno))

    def test_no_annotations(self):
        for name, node in nodes(ast.FunctionDef):
            self.assertEqual([each.arg for each in node.args.args if each.annotation], [], (name, node.name))

    def test_what_is_walked_is_walked_on_the_spot(self):
        for name, tree in trees():
            walked = set()
            for node in ast.walk(tree):
                if isinstance(node, (ast.For, ast.comprehension)):
                    walked.add(node.iter)
                elif isinstance(node, ast.Call) and isinstance(node.func, ast.Name) and node.func.id in WALKERS:
                    walked.update(node.args)
            for node in ast.walk(tree):
                if isinstance(node, ast.Call) and isinstance(node.func, ast.Name) and node.func.id in WALKS:
                    self.assertIn(node, walked, (name, node.lineno))


class Names(unittest.TestCase):
    def test_names_that_are_not_used(self):
        for name, node in nodes(ast.Name):
            self.assertNotIn(node.id, UNUSED_NAMES, (name, node.lineno))

    def test_no_name_is_a_method_and_a_value(self):
        methods, kept = set(), set()
        for _, node in nodes(ast.ClassDef):
            methods |= {each.name for each in node.body if isinstance(each, ast.FunctionDef)}
        for _, node in nodes(ast.Attribute):
            if isinstance(node.ctx, ast.Store):
                kept.add(node.attr)
        self.assertEqual(methods & kept, set())
        self.assertEqual(kept & UNUSED_VALUES, set())

    def test_keywords_are_those_allowed(self):
        for name, node in nodes(ast.Call):
            self.assertEqual(node.keywords, [], (name, node.lineno))

    def test_plain_and_not_python_s_own(self):
        for name, tree in trees():
            for word in bound_names(tree):
                if word != "__init__":
                    self.assertRegex(word, r"\A[A-Za-z][A-Za-z0-9_]*\Z", name)
                    self.assertNotIn(word, BUILT_IN, name)

    def test_read_names_are_bound_or_allowed(self):
        for name, tree in trees():
            allowed = set(bound_names(tree)) | OWN_NAMES
            for node in ast.walk(tree):
                if isinstance(node, ast.Name):
                    self.assertIn(node.id, allowed, (name, node.lineno))

    def test_methods_are_the_program_s_or_allowed(self):
        own = {node.name for _, node in nodes(ast.FunctionDef)}
        for name, node in nodes(ast.Call):
            if isinstance(node.func, ast.Attribute):
                self.assertIn(node.func.attr, METHODS | own, (name, node.lineno))

    def test_each_name_once_at_the_top(self):
        for name, tree in trees():
            words = []
            for node in tree.body:
                if isinstance(node, ast.ImportFrom):
                    words.extend(alias.name for alias in node.names)
            words.extend(top_names(tree))
            self.assertEqual(len(words), len(set(words)), name)

    def test_no_parameter_or_local_is_called_like_a_class_or_an_import(self):
        for name, tree in trees():
            taken = {alias.name for node in tree.body if isinstance(node, ast.ImportFrom) for alias in node.names}
            taken |= {node.name for node in tree.body if isinstance(node, ast.ClassDef)}
            for function in ast.walk(tree):
                if isinstance(function, ast.FunctionDef):
                    self.assertEqual(taken & (set(bound_names(function)) - {function.name}), set(), name)


if __name__ == "__main__":
    unittest.main()
