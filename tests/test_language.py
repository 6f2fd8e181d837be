"""Whether the package's files keep to the part of Python that they may use, as far as a look can tell."""
import ast
import builtins
import os
import re
import unittest

TOP = os.path.dirname(os.path.dirname(os.path.abspath(__file__)))
PACKAGE = os.path.join(TOP, "landmap")

OWN_NAMES = set(
    "len range enumerate zip min max sum abs sorted reversed int str bool list tuple dict set frozenset isinstance "
    "ord repr any all divmod Exception ValueError TypeError KeyError IndexError LookupError ZeroDivisionError "
    "ArithmeticError OverflowError RuntimeError NotImplementedError AttributeError StopIteration".split()
)
METHODS = set(
    "append clear copy count endswith extend find get index insert isalnum isalpha isdigit islower isspace isupper "
    "items join keys ljust lower lstrip partition pop remove replace reverse rfind rjust rpartition rsplit rstrip "
    "setdefault split splitlines startswith strip update upper values zfill bit_length".split()
)
NOT_USED = set("register mro elements open input version_info with_traceback add_note format format_map".split())
WORDS_NOWHERE = set(
    "type typing typing_extensions enum Enum IntEnum StrEnum Flag IntFlag Generic Protocol ABC ABCMeta namedtuple "
    "NamedTuple TypedDict TYPE_CHECKING abstractmethod".split()
)
TWO_UNDERSCORES = {"__init__", "__eq__", "__repr__", "__str__", "__len__"}
NODES_NOT_USED = (
    ast.With, ast.Match, ast.Delete, ast.Global, ast.Nonlocal, ast.Assert, ast.Yield, ast.YieldFrom,
    ast.AsyncFunctionDef, ast.AsyncFor, ast.AsyncWith, ast.Await, ast.SetComp, ast.DictComp, ast.GeneratorExp,
    ast.NamedExpr, ast.Starred, ast.Div, ast.MatMult, ast.AnnAssign, ast.Set,
    # Allowed in part, but the package does without them.
    ast.Try, ast.Raise, ast.JoinedStr,
)
WALKED_AT_ONCE = {"zip", "enumerate", "reversed", "range"}
WALKERS = {"list", "tuple", "dict", "sorted", "sum", "any", "all", "enumerate", "zip", "min", "max"}
SET_USERS = {"sorted", "len"}
KEYWORDS = {"sorted": {"key", "reverse"}, "min": {"key", "default"}, "max": {"key", "default"}}
CHANGERS = {"append", "clear", "extend", "insert", "pop", "remove", "reverse", "setdefault", "update"}
VALUES_OF_PYTHON = ("", 0, [], (), {}, set(), b"")


def package_files():
    return sorted(name for name in os.listdir(PACKAGE) if name != "__pycache__")


def text_of(name):
    with open(os.path.join(PACKAGE, name), "rb") as file:
        return file.read().decode("ascii")


class LanguageCase(unittest.TestCase):
    def each_file(self):
        for name in package_files():
            yield text_of(name)

    def each_node(self):
        for text in self.each_file():
            for node in ast.walk(ast.parse(text)):
                yield node


class Files(LanguageCase):
    def test_names(self):
        self.assertIn("__init__.py", package_files())
        self.assertIn("faces.py", package_files())
        for name in package_files():
            self.assertRegex(name, r"^(__init__|__main__|[a-z][a-z0-9_]*)\.py$")

    def test_signs_and_sizes(self):
        for text in self.each_file():
            lines = text.split("\n")
            self.assertLessEqual(len(lines), 400)
            for line in lines:
                self.assertLessEqual(len(line), 120)
                self.assertRegex(line, r"^[ -~]*$")

    def test_words_that_stand_nowhere(self):
        for text in self.each_file():
            self.assertFalse(set(re.findall(r"\w+", text)) & WORDS_NOWHERE)
            for part in ("dataclass", "overload", "contextmanager"):
                self.assertNotIn(part, text)


class Nodes(LanguageCase):
    def test_nothing_is_imported(self):
        for node in self.each_node():
            self.assertNotIsInstance(node, (ast.Import, ast.ImportFrom))

    def test_top_holds_plain_things_each_bound_once(self):
        for text in self.each_file():
            bound = []
            for node in ast.parse(text).body:
                if isinstance(node, ast.Assign):
                    ast.literal_eval(node.value)
                    bound.append(node.targets[0].id)
                elif isinstance(node, (ast.FunctionDef, ast.ClassDef)):
                    bound.append(node.name)
                else:
                    self.assertIsInstance(node, ast.Expr)
                    self.assertIsInstance(node.value, ast.Constant)
            self.assertEqual(len(bound), len(set(bound)))

    def test_kinds_of_statements_and_expressions(self):
        for node in self.each_node():
            self.assertNotIsInstance(node, NODES_NOT_USED)
            if isinstance(node, (ast.For, ast.While)):
                self.assertEqual(node.orelse, [])
            if isinstance(node, ast.Assign):
                self.assertEqual(len(node.targets), 1)
            if isinstance(node, ast.ListComp):
                self.assertEqual(len(node.generators), 1)
                self.assertLessEqual(len(node.generators[0].ifs), 1)
            if isinstance(node, ast.Constant):
                self.assertIsInstance(node.value, (int, str, type(None)))

    def test_functions(self):
        for node in self.each_node():
            if isinstance(node, ast.FunctionDef):
                self.assertLessEqual(node.end_lineno - node.lineno + 1, 40)
                self.assertEqual(node.decorator_list, [])
                self.assertIsNone(node.args.vararg)
                self.assertIsNone(node.args.kwarg)
                self.assertEqual(node.args.kwonlyargs, [])
                self.assertIsNone(node.returns)
                for arg in node.args.args:
                    self.assertIsNone(arg.annotation)
                for default in node.args.defaults:
                    ast.literal_eval(default)

    def test_lambdas_of_the_same_parameters_stand_on_lines_of_their_own(self):
        for text in self.each_file():
            found = [node for node in ast.walk(ast.parse(text)) if isinstance(node, ast.Lambda)]
            places = [(node.lineno, ast.unparse(node.args)) for node in found]
            self.assertEqual(len(places), len(set(places)))

    def test_exponents_are_written(self):
        for node in self.each_node():
            if isinstance(node, ast.BinOp) and isinstance(node.op, ast.Pow):
                self.assertIsInstance(node.right, ast.Constant)
                self.assertIn(node.right.value, range(65))

    def test_no_percent_sign_and_no_escape_in_texts(self):
        for node in self.each_node():
            if isinstance(node, ast.Constant) and isinstance(node.value, str):
                self.assertNotIn("%", node.value)
        for text in self.each_file():
            self.assertNotIn("\\", text)

    def test_keywords_of_pythons_own(self):
        for node in self.each_node():
            if isinstance(node, ast.Call) and node.keywords:
                self.assertIsInstance(node.func, ast.Name)
                self.assertLessEqual({word.arg for word in node.keywords}, KEYWORDS[node.func.id])

    def test_classes(self):
        for node in self.each_node():
            if isinstance(node, ast.ClassDef):
                self.assertEqual(node.decorator_list, [])
                for inner in node.body:
                    self.assertIsInstance(inner, ast.FunctionDef)


class Names(LanguageCase):
    def test_names_that_are_bound(self):
        for node in self.each_node():
            bound = []
            if isinstance(node, ast.arg):
                bound.append(node.arg)
            if isinstance(node, ast.Name) and isinstance(node.ctx, ast.Store):
                bound.append(node.id)
            if isinstance(node, (ast.FunctionDef, ast.ClassDef)):
                bound.append(node.name)
            for name in set(bound) - TWO_UNDERSCORES:
                self.assertRegex(name, r"^[A-Za-z][A-Za-z0-9_]*$")
                self.assertFalse(hasattr(builtins, name), name)
                self.assertNotIn(name, NOT_USED)

    def test_names_of_pythons_own(self):
        for node in self.each_node():
            if isinstance(node, ast.Name) and hasattr(builtins, node.id):
                self.assertIn(node.id, OWN_NAMES)

    def test_methods(self):
        for node in self.each_node():
            if isinstance(node, ast.Call) and isinstance(node.func, ast.Attribute):
                self.assertIn(node.func.attr, METHODS)
            if isinstance(node, ast.Attribute):
                self.assertNotIn(node.attr, NOT_USED)
                self.assertFalse(node.attr.startswith("_"))

    def test_values_of_objects_are_called_like_nothing_of_pythons_own(self):
        taken = set().union(*[dir(value) for value in VALUES_OF_PYTHON])
        for node in self.each_node():
            if isinstance(node, ast.Attribute) and isinstance(node.ctx, ast.Store):
                self.assertNotIn(node.attr, taken)

    def test_nothing_within_a_function_is_called_like_a_class(self):
        for text in self.each_file():
            tree = ast.parse(text)
            classes = {node.name for node in ast.walk(tree) if isinstance(node, ast.ClassDef)}
            for node in ast.walk(tree):
                if isinstance(node, ast.arg):
                    self.assertNotIn(node.arg, classes)
                if isinstance(node, ast.Name) and isinstance(node.ctx, ast.Store):
                    self.assertNotIn(node.id, classes)

    def test_classes_are_called_alone(self):
        for text in self.each_file():
            tree = ast.parse(text)
            classes = {node.name for node in ast.walk(tree) if isinstance(node, ast.ClassDef)}
            called = [node.func for node in ast.walk(tree) if isinstance(node, ast.Call)]
            for node in ast.walk(tree):
                if isinstance(node, ast.Name) and node.id in classes:
                    self.assertTrue(any(node is place for place in called), node.lineno)

    def test_is_stands_beside_none_true_and_false_alone(self):
        for node in self.each_node():
            if isinstance(node, ast.Compare) and any(isinstance(op, (ast.Is, ast.IsNot)) for op in node.ops):
                self.assertIsInstance(node.comparators[-1], ast.Constant)


class Walks(LanguageCase):
    def calls_of(self, tree, names):
        return [
            node for node in ast.walk(tree)
            if isinstance(node, ast.Call) and isinstance(node.func, ast.Name) and node.func.id in names
        ]

    def test_walked_on_the_spot(self):
        for text in self.each_file():
            tree = ast.parse(text)
            allowed = [node.iter for node in ast.walk(tree) if isinstance(node, (ast.For, ast.comprehension))]
            allowed += [arg for call in self.calls_of(tree, WALKERS) for arg in call.args]
            for call in self.calls_of(tree, WALKED_AT_ONCE):
                self.assertTrue(any(call is place for place in allowed), ast.unparse(call))

    def test_what_a_loop_walks_is_not_changed_in_it(self):
        for loop in self.each_node():
            if isinstance(loop, ast.For):
                walked = {node.id for node in ast.walk(loop.iter) if isinstance(node, ast.Name)}
                for node in ast.walk(ast.Module(loop.body, [])):
                    if isinstance(node, ast.Call) and isinstance(node.func, ast.Attribute):
                        if node.func.attr in CHANGERS:
                            self.assertNotIn(ast.unparse(node.func.value), walked)
                    if isinstance(node, ast.Subscript) and isinstance(node.ctx, ast.Store):
                        self.assertNotIn(ast.unparse(node.value), walked)

    def test_sets_are_neither_kept_nor_walked(self):
        for text in self.each_file():
            tree = ast.parse(text)
            allowed = [call.args[0] for call in self.calls_of(tree, SET_USERS) if not call.keywords]
            for call in self.calls_of(tree, {"set", "frozenset"}):
                self.assertTrue(any(call is place for place in allowed), ast.unparse(call))


if __name__ == "__main__":
    unittest.main()
