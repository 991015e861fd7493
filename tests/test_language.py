"""The form of the package's files: the rules of LANGUAGE.md that can be seen in a file, and that nothing is imported."""

import ast
import builtins
import os
import re
import unittest

PACKAGE = os.path.join(os.path.dirname(os.path.dirname(os.path.abspath(__file__))), "ringagain")

STATEMENTS = (ast.Assign, ast.AugAssign, ast.If, ast.While, ast.For, ast.Return, ast.Break, ast.Continue, ast.Pass,
              ast.Expr, ast.FunctionDef)
EXPRESSIONS = (ast.BoolOp, ast.BinOp, ast.UnaryOp, ast.Compare, ast.IfExp, ast.Call, ast.Attribute, ast.Subscript,
               ast.Slice, ast.ListComp, ast.List, ast.Tuple, ast.Dict, ast.Name, ast.Constant)
SMALL = (ast.Module, ast.arguments, ast.arg, ast.comprehension, ast.operator, ast.unaryop, ast.boolop, ast.cmpop,
         ast.expr_context)
LEFT_OUT = (ast.Div, ast.MatMult, ast.Is, ast.IsNot)
BUILT_IN = ("len range enumerate zip min max sum abs sorted reversed int str bool list tuple dict set frozenset "
            "isinstance ord repr any all divmod").split()
METHODS = ("append clear copy count endswith extend find get index insert isalnum isalpha isdigit islower isspace "
           "isupper items join keys ljust lower lstrip partition pop remove replace reverse rfind rjust rpartition "
           "rsplit rstrip setdefault split splitlines startswith strip update upper values zfill bit_length").split()
NOT_USED = ("register mro elements open input version_info with_traceback add_note attrgetter breakpoint builtins "
            "compile copyright credits delattr dir eval exec exit gc getattr globals hasattr help id importlib license "
            "locals methodcaller os quit setattr super type vars sys").split()
NOT_WRITTEN = re.compile(r"\b(type|typing|typing_extensions|enum|Enum|IntEnum|StrEnum|Flag|IntFlag|Generic|Protocol|ABC|"
                         r"ABCMeta|namedtuple|NamedTuple|TypedDict|TYPE_CHECKING|abstractmethod)\b"
                         r"|dataclass|overload|contextmanager")


KEYWORDS = {"sorted": ("key", "reverse"), "min": ("key", "default"), "max": ("key", "default"), "sum": ("start",),
            "enumerate": ("start",), "zip": ("strict",)}
WALKED = ("zip", "enumerate", "reversed", "range")
WALKED_METHODS = ("items", "keys", "values")
WALKERS = ("list", "tuple", "dict", "sorted", "sum", "any", "all", "enumerate", "zip", "min", "max")
CHANGING = "append clear extend insert pop remove reverse setdefault update".split()


def texts():
    for name in sorted(os.listdir(PACKAGE)):
        if name != "__pycache__":
            with open(os.path.join(PACKAGE, name), encoding="utf-8") as file:
                yield name, file.read()


def bound_names(tree):
    for node in ast.walk(tree):
        if isinstance(node, ast.FunctionDef):
            yield node.name
        if isinstance(node, ast.arg):
            yield node.arg
        if isinstance(node, ast.Name) and isinstance(node.ctx, ast.Store):
            yield node.id


def parents(tree):
    """From each part of a file to the part that it stands in."""
    return {inner: node for node in ast.walk(tree) for inner in ast.iter_child_nodes(node)}


def is_called(node, above):
    return isinstance(above[node], ast.Call) and above[node].func is node


def is_walked_at_once(call, above):
    """Whether what this call gives stands where it is walked on the spot."""
    around = above[call]
    if isinstance(around, (ast.For, ast.comprehension)):
        return around.iter is call
    return isinstance(around, ast.Call) and isinstance(around.func, ast.Name) and around.func.id in WALKERS


def walked_names(loop):
    """What a loop walks, itself or through enumerate, zip, reversed or items, as it is written."""
    walked = loop.iter
    if isinstance(walked, ast.Call):
        if isinstance(walked.func, ast.Attribute):
            return [ast.unparse(walked.func.value)]
        return [] if walked.func.id == "range" else [ast.unparse(one) for one in walked.args]
    return [ast.unparse(walked)]


def changed_names(loop):
    """What is changed in a loop, as it is written."""
    for node in ast.walk(loop):
        if isinstance(node, ast.Subscript) and isinstance(node.ctx, ast.Store):
            yield ast.unparse(node.value)
        if isinstance(node, ast.Attribute) and node.attr in CHANGING:
            yield ast.unparse(node.value)
        if isinstance(node, ast.AugAssign):
            yield ast.unparse(node.target)


class Files(unittest.TestCase):
    def test_plain_python_files_alone(self):
        names = [name for name, text in texts()]
        self.assertIn("__init__.py", names)
        self.assertIn("tiles.py", names)
        for name in names:
            self.assertRegex(name, r"^(__init__|[a-z][a-z0-9_]*)\.py$")

    def test_size_and_signs(self):
        for name, text in texts():
            rows = text.split("\n")
            self.assertLessEqual(len(rows), 400, name)
            self.assertLessEqual(max(map(len, rows)), 120, name)
            self.assertRegex(text, r"\A[ -~\n]*\Z", name)
            self.assertIsNone(NOT_WRITTEN.search(text), name)

    def test_functions_are_small(self):
        for name, text in texts():
            for node in ast.walk(ast.parse(text)):
                if isinstance(node, ast.FunctionDef):
                    self.assertLessEqual(node.end_lineno - node.lineno + 1, 40, node.name)


class Code(unittest.TestCase):
    def test_nothing_is_imported_and_only_plain_steps_are_used(self):
        for name, text in texts():
            for node in ast.walk(ast.parse(text)):
                self.assertIsInstance(node, STATEMENTS + EXPRESSIONS + SMALL, (name, node))
                self.assertNotIsInstance(node, LEFT_OUT, (name, node))

    def test_forms_of_the_steps(self):
        for name, text in texts():
            for node in ast.walk(ast.parse(text)):
                if isinstance(node, ast.Assign):
                    self.assertEqual(len(node.targets), 1, (name, node.lineno))
                    self.assertNotIsInstance(node.targets[0], (ast.Tuple, ast.List), (name, node.lineno))
                if isinstance(node, (ast.For, ast.While)):
                    self.assertEqual(node.orelse, [], (name, node.lineno))
                if isinstance(node, ast.ListComp):
                    self.assertEqual(len(node.generators), 1, (name, node.lineno))
                    self.assertLessEqual(len(node.generators[0].ifs), 1, (name, node.lineno))
                if isinstance(node, ast.FunctionDef):
                    self.assertEqual(node.decorator_list, [], node.name)
                    self.assertIsNone(node.args.vararg or node.args.kwarg, node.name)
                if isinstance(node, ast.Constant):
                    self.assertIn(type(node.value).__name__, ("int", "str", "bool", "NoneType"), (name, node.lineno))

    def test_python_s_own_names(self):
        for name, text in texts():
            tree = ast.parse(text)
            bound = set(bound_names(tree))
            for word in bound:
                self.assertFalse(hasattr(builtins, word), word)
                self.assertNotIn(word, NOT_USED)
                self.assertFalse(word.startswith("_"), word)
            for node in ast.walk(tree):
                if isinstance(node, ast.Name) and isinstance(node.ctx, ast.Load):
                    self.assertTrue(node.id in bound or node.id in BUILT_IN, (name, node.id))
                if isinstance(node, ast.Attribute):
                    self.assertIn(node.attr, METHODS, (name, node.lineno))

    def test_names_of_a_file_are_bound_once(self):
        for name, text in texts():
            tops = []
            for node in ast.parse(text).body:
                if isinstance(node, ast.FunctionDef):
                    tops.append(node.name)
                elif isinstance(node, ast.Assign):
                    tops.append(node.targets[0].id)
                    ast.literal_eval(node.value)
                else:
                    self.assertIsInstance(node, ast.Expr)
                    self.assertIsInstance(node.value, ast.Constant)
            self.assertEqual(len(tops), len(set(tops)), name)

    def test_parameters_are_plain_and_nothing_is_annotated(self):
        for name, text in texts():
            for node in ast.walk(ast.parse(text)):
                if isinstance(node, ast.FunctionDef):
                    self.assertEqual(node.args.posonlyargs + node.args.kwonlyargs, [], node.name)
                    self.assertIsNone(node.returns, node.name)
                    for default in node.args.defaults:
                        ast.literal_eval(default)
                if isinstance(node, ast.arg):
                    self.assertIsNone(node.annotation, (name, node.arg))

    def test_what_stands_by_itself_is_a_call_or_a_docstring(self):
        for name, text in texts():
            for node in ast.walk(ast.parse(text)):
                if isinstance(node, ast.Expr) and not isinstance(node.value, ast.Call):
                    self.assertIsInstance(node.value, ast.Constant, (name, node.lineno))
                    self.assertIsInstance(node.value.value, str, (name, node.lineno))

    def test_python_s_own_are_called_where_they_stand(self):
        for name, text in texts():
            tree = ast.parse(text)
            above = parents(tree)
            for node in ast.walk(tree):
                if isinstance(node, ast.Attribute) or isinstance(node, ast.Name) and node.id in BUILT_IN:
                    self.assertTrue(is_called(node, above), (name, node.lineno))
                if isinstance(node, ast.Call):
                    for keyword in node.keywords:
                        self.assertIsInstance(node.func, ast.Name, (name, node.lineno))
                        self.assertIn(keyword.arg, KEYWORDS.get(node.func.id, ()), (name, node.lineno))

    def test_what_is_to_be_walked_is_walked_at_once(self):
        for name, text in texts():
            tree = ast.parse(text)
            above = parents(tree)
            for node in ast.walk(tree):
                if not isinstance(node, ast.Call):
                    continue
                own = isinstance(node.func, ast.Name) and node.func.id in WALKED
                if own or isinstance(node.func, ast.Attribute) and node.func.attr in WALKED_METHODS:
                    self.assertTrue(is_walked_at_once(node, above), (name, node.lineno))

    def test_what_a_loop_walks_is_not_changed_in_it(self):
        for name, text in texts():
            for node in ast.walk(ast.parse(text)):
                if isinstance(node, ast.For):
                    self.assertEqual(set(walked_names(node)) & set(changed_names(node)), set(), (name, node.lineno))

    def test_lists_and_dicts_of_a_file_are_flat_and_only_read(self):
        for name, text in texts():
            tree = ast.parse(text)
            above = parents(tree)
            kept = [node for node in tree.body if isinstance(node, ast.Assign)]
            kept = [node for node in kept if isinstance(node.value, (ast.List, ast.Dict))]
            words = [node.targets[0].id for node in kept]
            for node in kept:
                inner = [part for part in ast.walk(node.value) if isinstance(part, (ast.List, ast.Dict))]
                self.assertEqual(inner, [node.value], (name, node.lineno))
            for node in ast.walk(tree):
                if isinstance(node, ast.Name) and node.id in words and isinstance(node.ctx, ast.Load):
                    self.assertIsInstance(above[node], ast.Subscript, (name, node.lineno))
                    self.assertIsInstance(above[node].ctx, ast.Load, (name, node.lineno))

    def test_numbers_and_texts(self):
        for name, text in texts():
            for node in ast.walk(ast.parse(text)):
                if isinstance(node, ast.Constant) and isinstance(node.value, str):
                    self.assertNotIn("%", node.value, (name, node.lineno))
                if isinstance(node, ast.BinOp) and isinstance(node.op, ast.Pow):
                    self.assertIn(getattr(node.right, "value", None), range(65), (name, node.lineno))

    def test_no_sets(self):
        # there are dicts of True in their place, so that nothing hangs on a set's order
        for name, text in texts():
            for node in ast.walk(ast.parse(text)):
                if isinstance(node, ast.Name):
                    self.assertNotIn(node.id, ("set", "frozenset"), (name, node.lineno))

    def test_no_function_calls_itself_in_whatever_many_steps(self):
        # what is as long as its input is gone through by loops
        for name, text in texts():
            calls = {}
            for node in ast.parse(text).body:
                if isinstance(node, ast.FunctionDef):
                    calls[node.name] = {inner.id for inner in ast.walk(node) if isinstance(inner, ast.Name)}
            for start in calls:
                reached = set()
                coming = [start]
                while coming:
                    for word in calls[coming.pop()] & set(calls):
                        if word not in reached:
                            reached.add(word)
                            coming.append(word)
                self.assertNotIn(start, reached)


if __name__ == "__main__":
    unittest.main()
