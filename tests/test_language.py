"""Checks the files of the package by those rules of the language that can be seen in the code."""

import ast
import builtins
import os
import re
import unittest

FOLDER = os.path.join(os.path.dirname(os.path.dirname(os.path.abspath(__file__))), "piercednames")

BUILTINS = set(
    """len range enumerate zip min max sum abs sorted reversed int str bool list tuple dict set isinstance ord repr
    any all divmod Exception ValueError TypeError KeyError IndexError LookupError property staticmethod classmethod
    NotImplemented super""".split()
)
LIBRARY = {
    "math": {"gcd", "lcm", "isqrt", "comb", "perm", "factorial"}, "heapq": {"heappush", "heappop", "heapify"},
    "itertools": {"product", "combinations", "permutations"},
}
METHODS = set(
    """append clear copy count endswith extend find get index insert isalnum isalpha isdigit islower isspace isupper
    items join keys ljust lower lstrip partition pop remove replace reverse rfind rjust rpartition rsplit rstrip
    setdefault split splitlines startswith strip update upper values zfill bit_length isascii removeprefix removesuffix
    add discard""".split()
)
SPECIAL = set(
    """__init__ __eq__ __repr__ __str__ __len__ __bool__ __call__ __contains__ __add__ __and__ __iter__""".split()
)
NEVER = set("register mro elements open input law version_info with_traceback add_note".split())
WORDS = set(
    """type typing enum Enum Flag Generic Protocol ABC ABCMeta namedtuple NamedTuple TypedDict abstractmethod
    dataclass overload contextmanager""".split()
)
# Where a zip, an enumerate and the like may stand: they are iterated on the spot.
AT_ONCE = {"zip", "enumerate", "reversed", "map"}
VIEWS = {"items", "keys", "values"}
TAKERS = {"list", "tuple", "dict", "sorted", "sum", "any", "all", "enumerate", "zip", "min", "max"}
ALLOWED = (
    ast.Module, ast.FunctionDef, ast.ClassDef, ast.Return, ast.Delete, ast.Assign, ast.AugAssign, ast.For, ast.While,
    ast.If, ast.With, ast.Raise, ast.Try, ast.Assert, ast.ImportFrom, ast.Nonlocal, ast.Expr, ast.Pass, ast.Break,
    ast.Continue, ast.BoolOp, ast.BinOp, ast.UnaryOp, ast.Lambda, ast.IfExp, ast.Dict, ast.Set, ast.ListComp,
    ast.SetComp, ast.DictComp, ast.GeneratorExp, ast.Yield, ast.YieldFrom, ast.Compare, ast.Call, ast.FormattedValue,
    ast.JoinedStr, ast.Constant, ast.Attribute, ast.Subscript, ast.Starred, ast.Name, ast.List, ast.Tuple, ast.Slice,
    ast.expr_context, ast.boolop, ast.operator, ast.unaryop, ast.cmpop, ast.comprehension, ast.ExceptHandler,
    ast.arguments, ast.arg, ast.keyword, ast.alias,
)


def files():
    found = {}
    for name in sorted(os.listdir(FOLDER)):
        if name != "__pycache__":
            with open(os.path.join(FOLDER, name), encoding="utf-8", newline="") as file:
                found[name] = file.read()
    return found


FILES = files()
TREES = {name: ast.parse(text) for name, text in FILES.items() if name.endswith(".py")}


def functions(tree):
    return [node for node in ast.walk(tree) if isinstance(node, (ast.FunctionDef, ast.Lambda))]


def parameters(function):
    given = function.args
    single = [argument for argument in (given.vararg, given.kwarg) if argument]
    return [argument.arg for argument in given.posonlyargs + given.args + given.kwonlyargs + single]


def bound_names(tree):
    """Every name of a variable, parameter, function or class."""
    for node in ast.walk(tree):
        if isinstance(node, (ast.FunctionDef, ast.ClassDef)):
            yield node.name
        if isinstance(node, (ast.FunctionDef, ast.Lambda)):
            yield from parameters(node)
        if isinstance(node, ast.Name) and not isinstance(node.ctx, ast.Load):
            yield node.id
        if isinstance(node, ast.ExceptHandler) and node.name:
            yield node.name


def is_setter(function):
    """A property and its setter are one method."""
    return any(isinstance(part, ast.Attribute) and part.attr == "setter" for part in function.decorator_list)


def docstrings(tree):
    for node in ast.walk(tree):
        if isinstance(node, (ast.Module, ast.ClassDef, ast.FunctionDef)) and node.body:
            first = node.body[0]
            if isinstance(first, ast.Expr) and isinstance(first.value, ast.Constant):
                yield first.value


class FilesTest(unittest.TestCase):
    def test_the_folder_has_only_files_of_python(self):
        for name in FILES:
            self.assertRegex(name, r"^[a-z0-9_]+\.py$")
        self.assertIn("__init__.py", FILES)

    def test_characters(self):
        for name, text in FILES.items():
            self.assertTrue(all(character == "\n" or " " <= character <= "~" for character in text), name)

    def test_sizes(self):
        for name, text in FILES.items():
            self.assertLessEqual(len(text.splitlines()), 399, name)
            for line in text.splitlines():
                self.assertLessEqual(len(line), 120, (name, line))
        for name, tree in TREES.items():
            for node in functions(tree):
                self.assertLessEqual(node.end_lineno - node.lineno + 1, 40, (name, node.lineno))


class ImportsTest(unittest.TestCase):
    def test_each_import_names_the_file_that_defines(self):
        for name, tree in TREES.items():
            for node in ast.walk(tree):
                self.assertNotIsInstance(node, ast.Import)
                if isinstance(node, ast.ImportFrom):
                    self.assertEqual(node.level, 0)
                    for alias in node.names:
                        self.assertIsNone(alias.asname)
                        self.assertIn(alias.name, self.defined(node.module), (name, alias.name))

    def defined(self, module):
        if module in LIBRARY:
            return LIBRARY[module]
        package, _, file = module.partition(".")
        self.assertEqual(package, "piercednames")
        body = TREES[file + ".py"].body
        found = {node.name for node in body if isinstance(node, (ast.FunctionDef, ast.ClassDef))}
        return found | {node.targets[0].id for node in body if isinstance(node, ast.Assign)}

    def test_no_ring_of_imports(self):
        needs = {}
        for name, tree in TREES.items():
            modules = [node.module for node in ast.walk(tree) if isinstance(node, ast.ImportFrom)]
            needs[name] = {module.partition(".")[2] + ".py" for module in modules if module not in LIBRARY}
        while needs:
            free = [name for name in needs if not needs[name] & set(needs)]
            self.assertTrue(free, sorted(needs))
            for name in free:
                del needs[name]

    def test_what_is_imported_is_used(self):
        for name, tree in TREES.items():
            used = {node.id for node in ast.walk(tree) if isinstance(node, ast.Name)}
            for node in ast.walk(tree):
                if isinstance(node, ast.ImportFrom):
                    self.assertEqual([alias.name for alias in node.names if alias.name not in used], [], name)


class NamesTest(unittest.TestCase):
    def test_no_builtin_gets_another_meaning(self):
        for name, tree in TREES.items():
            for word in bound_names(tree):
                self.assertNotIn(word, vars(builtins), name)
                self.assertNotIn(word, NEVER, name)

    def test_builtins_that_are_used(self):
        for name, tree in TREES.items():
            for node in ast.walk(tree):
                if isinstance(node, ast.Name) and node.id in vars(builtins):
                    self.assertIn(node.id, BUILTINS, (name, node.lineno))

    def test_names_begin_plainly(self):
        for name, tree in TREES.items():
            for word in bound_names(tree):
                self.assertTrue(re.fullmatch(r"_|_?[A-Za-z][A-Za-z0-9_]*", word) or word in SPECIAL, (name, word))

    def test_an_underscore_alone_is_never_read(self):
        for name, tree in TREES.items():
            for node in ast.walk(tree):
                if isinstance(node, ast.Name) and node.id == "_":
                    self.assertIsInstance(node.ctx, ast.Store, name)

    def test_no_variable_has_the_name_of_an_import_or_a_class(self):
        for name, tree in TREES.items():
            taken = {node.name for node in ast.walk(tree) if isinstance(node, ast.ClassDef)}
            for node in ast.walk(tree):
                if isinstance(node, ast.ImportFrom):
                    taken |= {alias.name for alias in node.names}
            for function in functions(tree):
                inside = set(parameters(function)) | {
                    node.id for node in ast.walk(function) if isinstance(node, ast.Name) and isinstance(node.ctx, ast.Store)
                }
                self.assertEqual(inside & taken, set(), name)

    def test_each_name_is_bound_once_at_module_level(self):
        for name, tree in TREES.items():
            bound = []
            for node in tree.body:
                if isinstance(node, (ast.FunctionDef, ast.ClassDef)):
                    bound.append(node.name)
                elif isinstance(node, ast.Assign):
                    self.assertEqual(len(node.targets), 1, name)
                    bound.append(node.targets[0].id)
                elif isinstance(node, ast.ImportFrom):
                    bound.extend(alias.name for alias in node.names)
                else:
                    self.assertIn(getattr(node, "value", None), list(docstrings(tree)), name)
            self.assertEqual(len(bound), len(set(bound)), name)

    def test_no_method_is_also_an_attribute_or_defined_twice(self):
        methods, attributes = set(), set()
        for name, tree in TREES.items():
            for node in ast.walk(tree):
                if isinstance(node, ast.ClassDef):
                    own = [part.name for part in node.body if isinstance(part, ast.FunctionDef) and not is_setter(part)]
                    self.assertEqual(len(own), len(set(own)), (name, node.name))
                    methods |= set(own)
                if isinstance(node, ast.Attribute) and isinstance(node.ctx, ast.Store):
                    attributes.add(node.attr)
        self.assertEqual(methods & attributes, set())


class CodeTest(unittest.TestCase):
    def each(self):
        for name, tree in TREES.items():
            for node in ast.walk(tree):
                yield (name, getattr(node, "lineno", 0)), node

    def test_only_the_allowed_parts_of_the_language(self):
        for place, node in self.each():
            self.assertIsInstance(node, ALLOWED, place)
            self.assertNotIsInstance(node, (ast.Div, ast.MatMult), place)

    def test_no_decorators_but_those_of_methods(self):
        for place, node in self.each():
            if isinstance(node, (ast.FunctionDef, ast.ClassDef)):
                for decorator in node.decorator_list:
                    self.assertIn(ast.unparse(decorator).rpartition(".")[2], ("property", "staticmethod", "setter"), place)

    def test_strings_and_numbers(self):
        for name, tree in TREES.items():
            told = list(docstrings(tree))
            for node in ast.walk(tree):
                if isinstance(node, ast.Constant):
                    self.assertNotIsInstance(node.value, (float, complex, bytes), name)
                if isinstance(node, ast.Constant) and isinstance(node.value, str) and node not in told:
                    self.assertNotIn("%", node.value, name)
                    self.assertFalse(set(re.findall(r"\w+", node.value)) & WORDS, (name, node.value))

    def test_is_stands_beside_none_true_or_false(self):
        for place, node in self.each():
            if isinstance(node, ast.Compare):
                for sign, side in zip(node.ops, node.comparators):
                    if isinstance(sign, (ast.Is, ast.IsNot)):
                        self.assertTrue(isinstance(side, ast.Constant) and side.value in (None, True, False), place)

    def test_methods_that_are_called(self):
        own = {node.name for _, node in self.each() if isinstance(node, ast.FunctionDef)}
        for place, node in self.each():
            if isinstance(node, ast.Call) and isinstance(node.func, ast.Attribute):
                self.assertTrue(node.func.attr in METHODS | own, (place, node.func.attr))
                if node.func.attr not in own:
                    self.assertEqual(node.keywords, [], place)

    def test_what_is_iterated_at_once(self):
        for name, tree in TREES.items():
            allowed = set()
            for node in ast.walk(tree):
                if isinstance(node, (ast.For, ast.comprehension)):
                    allowed.add(node.iter)
                if isinstance(node, ast.Call):
                    taker = node.func.id if isinstance(node.func, ast.Name) else node.func.attr
                    if taker in TAKERS or taker == "join":
                        allowed |= set(node.args)
            for node in ast.walk(tree):
                if isinstance(node, ast.Call) and node not in allowed:
                    called = node.func.id if isinstance(node.func, ast.Name) else ""
                    viewed = node.func.attr if isinstance(node.func, ast.Attribute) else ""
                    self.assertNotIn(called, AT_ONCE, (name, node.lineno))
                    self.assertNotIn(viewed, VIEWS, (name, node.lineno))

    def test_no_generator_expressions_and_no_sort(self):
        # Classes here have __eq__ and __len__: then lists are passed in place of these.
        for place, node in self.each():
            self.assertNotIsInstance(node, ast.GeneratorExp, place)
            if isinstance(node, ast.Attribute):
                self.assertNotEqual(node.attr, "sort", place)

    def test_sets_are_not_iterated_or_passed_on(self):
        for place, node in self.each():
            if isinstance(node, (ast.For, ast.comprehension)):
                self.assertNotIsInstance(node.iter, (ast.Set, ast.SetComp), place)
                self.assertFalse(isinstance(node.iter, ast.Call) and ast.unparse(node.iter.func) == "set", place)

    def test_caught_errors(self):
        for place, node in self.each():
            if isinstance(node, ast.ExceptHandler):
                self.assertIsNotNone(node.type, place)
                self.assertNotIn(ast.unparse(node.type), ("Exception", "ValueError", "LookupError", "IndexError"), place)

    def test_errors_are_raised_on_the_spot(self):
        for place, node in self.each():
            if isinstance(node, ast.Raise) and node.exc is not None:
                self.assertIsInstance(node.exc, ast.Call, place)
                self.assertEqual(node.exc.keywords, [], place)

    def test_no_annotations(self):
        for place, node in self.each():
            if isinstance(node, ast.arg):
                self.assertIsNone(node.annotation, place)
            if isinstance(node, ast.FunctionDef):
                self.assertIsNone(node.returns, place)

    def test_special_methods(self):
        for place, node in self.each():
            if isinstance(node, ast.FunctionDef) and node.name.startswith("__"):
                self.assertIn(node.name, SPECIAL, place)


if __name__ == "__main__":
    unittest.main()
