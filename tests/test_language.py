"""The rules of the language that can be seen file by file, of all files of the package."""

import ast
import builtins
import os
import re
import unittest

import endlessplane

FOLDER = os.path.dirname(os.path.abspath(endlessplane.__file__))
LIBRARY = {
    "heapq": ["heappush", "heappop", "heapify", "heapreplace", "heappushpop"],
    "math": ["gcd", "lcm", "isqrt", "comb", "perm", "factorial"],
    "itertools": ["product", "combinations", "permutations"],
}
BUILTINS = """
    len range enumerate zip min max sum abs sorted reversed int str bool bytes list tuple dict set frozenset isinstance
    ord repr any all divmod map iter next Exception ValueError TypeError KeyError IndexError LookupError
    ZeroDivisionError ArithmeticError OverflowError RuntimeError NotImplementedError AttributeError StopIteration
    NotImplemented
""".split()
CLASS_METHODS = """
    __init__ __eq__ __repr__ __str__ __len__ __enter__ __exit__ __call__ __iter__ __lt__ __le__ __gt__ __ge__ __ne__
    __add__ __sub__ __mul__ __floordiv__ __mod__ __pow__ __and__ __or__ __xor__ __lshift__ __rshift__ __neg__ __pos__
    __invert__ __abs__ __bool__ __contains__ __getitem__ __setitem__
""".split()
UNUSED_NAMES = """
    register mro elements open input law version_info with_traceback add_note attrgetter breakpoint builtins compile
    copyright credits delattr dir eval exec exit gc getattr globals hasattr help id importlib license locals
    methodcaller os quit setattr vars sys
""".split()
UNUSED_WORDS = """
    type typing typing_extensions enum Enum IntEnum StrEnum Flag IntFlag Generic Protocol ABC ABCMeta namedtuple
    NamedTuple TypedDict TYPE_CHECKING abstractmethod
""".split()
FORBIDDEN_NODES = (
    ast.Global, ast.AsyncFunctionDef, ast.AsyncFor, ast.AsyncWith, ast.Await, ast.Div, ast.MatMult, ast.Import,
)


def package_files():
    """The names of all files of the package."""
    return sorted(name for name in os.listdir(FOLDER) if name != "__pycache__")


def text_of(name):
    """The text of a file of the package."""
    with open(os.path.join(FOLDER, name), encoding="ascii", newline="") as file:
        return file.read()


def bound_names(tree):
    """All names that a file binds anywhere."""
    names = []
    for node in ast.walk(tree):
        if isinstance(node, (ast.FunctionDef, ast.ClassDef)):
            names.append(node.name)
        elif isinstance(node, ast.arg):
            names.append(node.arg)
        elif isinstance(node, ast.alias):
            names.append(node.asname or node.name)
        elif isinstance(node, ast.Name) and not isinstance(node.ctx, ast.Load):
            names.append(node.id)
        elif isinstance(node, ast.ExceptHandler) and node.name:
            names.append(node.name)
    return names


def is_plainly_sorted(call):
    """Whether what is sorted is plainly numbers or strings, or sorted by a length or such."""
    for keyword in call.keywords:
        if keyword.arg == "key":
            return isinstance(keyword.value, ast.Name) and keyword.value.id in ("len", "int", "str")
    told = call.args[0]
    if isinstance(told, ast.ListComp):
        return isinstance(told.elt, ast.Call) and isinstance(told.elt.func, ast.Name) \
            and told.elt.func.id in ("int", "str", "len", "ord", "repr")
    return isinstance(told, ast.Call)


def is_plain_number(node):
    """Whether an expression is plainly a number: written out, of a call that gives one, or a sum of such."""
    if isinstance(node, ast.BinOp):
        return is_plain_number(node.left) and is_plain_number(node.right)
    if isinstance(node, ast.Call):
        return isinstance(node.func, ast.Name) and node.func.id in ("int", "len", "ord")
    return isinstance(node, ast.Constant) and isinstance(node.value, int)


def is_plainly_compared(call):
    """Whether what min or max takes is plainly numbers; of two arguments one is enough."""
    if len(call.args) == 1:
        return isinstance(call.args[0], ast.ListComp) and is_plain_number(call.args[0].elt)
    return any(is_plain_number(told) for told in call.args)


def inner_names(node, outer, nested):
    """The pairs (line, names) of comprehensions whose variables functions or comprehensions further out assign, too."""
    for child in ast.iter_child_nodes(node):
        if isinstance(child, (ast.ListComp, ast.SetComp, ast.DictComp, ast.GeneratorExp)):
            targets = [told for part in child.generators for told in ast.walk(part.target)]
            names = {told.id for told in targets if isinstance(told, ast.Name)}
            if nested and names & outer:
                yield child.lineno, names & outer
            yield from inner_names(child, outer | names, True)
        elif isinstance(child, ast.Lambda):
            yield from inner_names(child, outer | {told.arg for told in child.args.args}, True)
        else:
            yield from inner_names(child, outer, nested)


class LanguageTest(unittest.TestCase):
    def setUp(self):
        self.trees = {name: ast.parse(text_of(name)) for name in package_files()}
        self.texts = {name: text_of(name) for name in package_files()}

    def every_node(self, *classes):
        """All nodes of these classes, each with the place at which it stands."""
        for name, tree in self.trees.items():
            for node in ast.walk(tree):
                if isinstance(node, classes):
                    yield f"{name}:{getattr(node, 'lineno', 0)}", node

    def test_files(self):
        self.assertIn("__init__.py", package_files())
        self.assertLessEqual(len(package_files()), 100)
        for name in package_files():
            self.assertTrue(re.fullmatch(r"(__init__|__main__|[a-z][a-z0-9_]*)\.py", name), name)

    def test_characters_and_lines(self):
        for name, text in self.texts.items():
            self.assertTrue(re.fullmatch(r"[ -~\n]*", text), name)
            lines = text.split("\n")
            self.assertLessEqual(len(lines), 400, name)
            self.assertLessEqual(max(len(line) for line in lines), 120, name)

    def test_size_of_functions(self):
        for place, node in self.every_node(ast.FunctionDef):
            self.assertLessEqual(node.end_lineno - node.lineno + 1, 40, place)
            self.assertEqual(node.decorator_list, [], place)

    def test_imports(self):
        for place, node in self.every_node(ast.ImportFrom):
            self.assertEqual(node.level, 0, place)
            names = [told.name for told in node.names]
            self.assertTrue(all(told.asname is None for told in node.names), place)
            if node.module in LIBRARY:
                self.assertTrue(all(name in LIBRARY[node.module] for name in names), place)
                continue
            package, _, module = node.module.partition(".")
            self.assertEqual(package, "endlessplane", place)
            defined = [row.name for row in self.trees[module + ".py"].body
                       if isinstance(row, (ast.FunctionDef, ast.ClassDef))]
            defined += [row.targets[0].id for row in self.trees[module + ".py"].body if isinstance(row, ast.Assign)]
            for name in names:
                self.assertIn(name, defined, place)

    def test_no_circle_of_imports(self):
        left = {name: [node.module.partition(".")[2] + ".py" for node in tree.body
                       if isinstance(node, ast.ImportFrom) and node.module.startswith("endlessplane.")]
                for name, tree in self.trees.items()}
        while left:
            free = [name for name in left if not any(other in left for other in left[name])]
            self.assertTrue(free, f"a circle among {sorted(left)}")
            for name in free:
                del left[name]

    def test_nodes(self):
        for place, node in self.every_node(*FORBIDDEN_NODES):
            self.fail(f"{node.__class__.__name__} at {place}")
        for place, node in self.every_node(ast.Constant):
            self.assertNotIsInstance(node.value, (float, complex), place)
            if isinstance(node.value, str):
                self.assertNotIn("%", node.value, place)
        for place, node in self.every_node(ast.Compare):
            for operator, told in zip(node.ops, node.comparators):
                if isinstance(operator, (ast.Is, ast.IsNot)):
                    self.assertTrue(isinstance(told, ast.Constant) and told.value in (None, True, False), place)

    def test_module_level(self):
        for name, tree in self.trees.items():
            for row in tree.body:
                docstring = isinstance(row, ast.Expr) and isinstance(row.value, ast.Constant)
                self.assertTrue(docstring or isinstance(
                    row, (ast.ImportFrom, ast.FunctionDef, ast.ClassDef, ast.Assign)), f"{name}:{row.lineno}")

    def test_names(self):
        for name, tree in self.trees.items():
            names = bound_names(tree)
            for told in names:
                if told in CLASS_METHODS or told in ("_", "__slots__"):
                    continue
                self.assertTrue(re.fullmatch(r"_?[A-Za-z][A-Za-z0-9_]*", told), f"{told} in {name}")
                self.assertNotIn(told, UNUSED_NAMES, name)
                self.assertFalse(hasattr(builtins, told), f"{told} in {name}")
            for node in ast.walk(tree):
                if isinstance(node, ast.Name) and isinstance(node.ctx, ast.Load) and node.id not in names:
                    self.assertIn(node.id, BUILTINS, f"{name}:{node.lineno}")

    def test_words(self):
        for place, node in self.every_node(ast.Name, ast.Attribute, ast.arg, ast.FunctionDef, ast.ClassDef):
            for field in ("id", "attr", "arg", "name"):
                self.assertNotIn(getattr(node, field, None), UNUSED_WORDS, place)

    def test_local_names(self):
        for name, tree in self.trees.items():
            taken = [row.name for row in tree.body if isinstance(row, ast.ClassDef)]
            for row in tree.body:
                if isinstance(row, ast.ImportFrom):
                    taken += [told.name for told in row.names]
            for node in ast.walk(tree):
                if isinstance(node, ast.arg):
                    self.assertNotIn(node.arg, taken, f"{name}:{node.lineno}")
                if isinstance(node, ast.Name) and isinstance(node.ctx, ast.Store):
                    self.assertNotIn(node.id, taken, f"{name}:{node.lineno}")

    def test_names_in_comprehensions(self):
        for name, tree in self.trees.items():
            for row in ast.walk(tree):
                if isinstance(row, ast.FunctionDef):
                    self.assertEqual(list(inner_names(row, set(), False)), [], name)

    def test_attributes_and_methods(self):
        methods = {row.name for _, node in self.every_node(ast.ClassDef) for row in node.body
                   if isinstance(row, ast.FunctionDef)}
        for place, node in self.every_node(ast.Attribute):
            if isinstance(node.ctx, ast.Store):
                self.assertNotIn(node.attr, methods, place)

    def test_calls(self):
        takes_a_list = ("any", "all", "min", "max", "sum", "sorted")
        for place, node in self.every_node(ast.Call):
            if isinstance(node.func, ast.Name) and node.func.id in takes_a_list:
                self.assertFalse(any(isinstance(told, ast.GeneratorExp) for told in node.args), place)
            if isinstance(node.func, ast.Name) and node.func.id == "sorted":
                self.assertTrue(is_plainly_sorted(node), place)
            if isinstance(node.func, ast.Name) and node.func.id in ("min", "max"):
                self.assertTrue(is_plainly_compared(node), place)
            if isinstance(node.func, ast.Attribute):
                self.assertNotEqual(node.func.attr, "sort", place)

    def test_errors(self):
        for place, node in self.every_node(ast.Raise):
            self.assertTrue(node.exc is None or (
                isinstance(node.exc, ast.Call) and isinstance(node.exc.func, ast.Name)), place)
        for place, node in self.every_node(ast.ExceptHandler):
            caught = node.type.elts if isinstance(node.type, ast.Tuple) else [node.type]
            for told in caught:
                self.assertIsInstance(told, ast.Name, place)
                own = not hasattr(builtins, told.id)
                self.assertTrue(own or told.id in ("KeyError", "ZeroDivisionError"), place)


if __name__ == "__main__":
    unittest.main()
