"""The package's own files keep to the part of Python that they are to be written in, as far as a test can see."""

import ast
import builtins
import os
import re
import unittest

FOLDER = os.path.join(os.path.dirname(os.path.dirname(os.path.abspath(__file__))), "lesserchip")
PYTHONS_OWN = """len range enumerate zip min max sum abs sorted reversed int str bool list tuple dict set frozenset
isinstance ord repr any all divmod Exception ValueError TypeError KeyError IndexError LookupError ZeroDivisionError
ArithmeticError OverflowError RuntimeError NotImplementedError AttributeError StopIteration""".split()
METHODS = """append clear copy count endswith extend find get index insert isalnum isalpha isdigit islower isspace
isupper items join keys ljust lower lstrip partition pop remove replace reverse rfind rjust rpartition rsplit rstrip
setdefault split splitlines startswith strip update upper values zfill bit_length""".split()
WORDS = """type typing typing_extensions enum Enum IntEnum StrEnum Flag IntFlag Generic Protocol ABC ABCMeta namedtuple
NamedTuple TypedDict TYPE_CHECKING abstractmethod""".split()
NOWHERE = "register mro elements open input version_info with_traceback add_note format format_map".split()
NOT_NAMES = """attrgetter breakpoint builtins compile copyright credits delattr dir eval exec exit gc getattr globals
hasattr help id importlib license locals methodcaller os quit setattr super type vars sys chr print""".split()
STATEMENTS = (
    ast.Module, ast.Expr, ast.Assign, ast.AugAssign, ast.If, ast.While, ast.For, ast.Return, ast.Break, ast.Continue,
    ast.Pass, ast.Raise, ast.Try, ast.ExceptHandler, ast.FunctionDef, ast.ClassDef, ast.ImportFrom, ast.alias,
    ast.arguments, ast.arg, ast.keyword,
)
EXPRESSIONS = (
    ast.Constant, ast.Name, ast.List, ast.Tuple, ast.Dict, ast.BinOp, ast.UnaryOp, ast.BoolOp, ast.Compare, ast.IfExp,
    ast.Call, ast.Attribute, ast.Subscript, ast.Slice, ast.ListComp, ast.comprehension, ast.JoinedStr,
    ast.FormattedValue, ast.Lambda, ast.expr_context, ast.boolop, ast.unaryop, ast.cmpop,
)
OPERATORS = (
    ast.Add, ast.Sub, ast.Mult, ast.FloorDiv, ast.Mod, ast.BitAnd, ast.BitOr, ast.BitXor, ast.LShift, ast.RShift,
)


def modules():
    """Each file's name, text and tree."""
    for name in sorted(os.listdir(FOLDER)):
        if name == "__pycache__":
            continue
        with open(os.path.join(FOLDER, name), encoding="utf-8", newline="") as file:
            text = file.read()
        yield name, text, ast.parse(text)


def functions(tree):
    return [node for node in ast.walk(tree) if isinstance(node, ast.FunctionDef)]


def bound_names(tree):
    """The names that are bound at a file's top, in order."""
    names = []
    for node in tree.body:
        if isinstance(node, ast.ImportFrom):
            names += [alias.name for alias in node.names]
        elif isinstance(node, (ast.FunctionDef, ast.ClassDef)):
            names.append(node.name)
        elif isinstance(node, ast.Assign):
            names += [target.id for target in node.targets]
    return names


def locals_of(function):
    names = [argument.arg for argument in function.args.args]
    for node in ast.walk(function):
        if isinstance(node, ast.Name) and isinstance(node.ctx, ast.Store):
            names.append(node.id)
    return names


class Language(unittest.TestCase):
    def test_files(self):
        names = [name for name, text, tree in modules()]
        self.assertIn("__init__.py", names)
        for name in names:
            self.assertRegex(name, r"^(__init__|[a-z][a-z0-9_]*)\.py$")
            self.assertNotIn(name[:-3], dir(builtins))

    def test_signs_and_sizes(self):
        for name, text, tree in modules():
            self.assertRegex(text, r"\A[ -~\n]*\Z", name)
            self.assertLessEqual(len(text.splitlines()), 400, name)
            self.assertLessEqual(max(len(line) for line in text.splitlines()), 120, name)
            for function in functions(tree):
                self.assertLessEqual(function.end_lineno - function.lineno + 1, 40, function.name)

    def test_words(self):
        for name, text, tree in modules():
            found = re.findall(r"\w+", text)
            self.assertEqual([word for word in WORDS if word in found], [], name)
            self.assertNotRegex(text, "dataclass|overload|contextmanager", name)

    def test_parts_of_the_language(self):
        for name, text, tree in modules():
            for node in ast.walk(tree):
                known = isinstance(node, STATEMENTS + EXPRESSIONS + OPERATORS)
                self.assertTrue(known, f"{name}: {ast.dump(node)[:80]}")
                if isinstance(node, (ast.FunctionDef, ast.ClassDef)):
                    self.assertEqual(node.decorator_list, [], name)
                if isinstance(node, (ast.While, ast.For)):
                    self.assertEqual(node.orelse, [], name)
                if isinstance(node, ast.Expr) and node is not tree.body[0]:
                    self.assertIsInstance(node.value, ast.Call, name)
                if isinstance(node, ast.Assign):
                    self.assertEqual(len(node.targets), 1, name)
                    self.assertNotIsInstance(node.targets[0], ast.Tuple, name)
                if isinstance(node, ast.Constant):
                    self.assertIn(type(node.value), (int, str, bool, type(None)), name)
                    self.assertNotIn("%", str(node.value), name)
                if isinstance(node, ast.FormattedValue):
                    self.assertIsInstance(node.value, ast.Name, name)
                    self.assertIsNone(node.format_spec, name)
                if isinstance(node, ast.arguments):
                    self.assertEqual((node.vararg, node.kwarg, node.kwonlyargs, node.posonlyargs), (None, None, [], []))

    def test_top_of_a_module(self):
        for name, text, tree in modules():
            self.assertIsNotNone(ast.get_docstring(tree), name)
            names = bound_names(tree)
            self.assertEqual(len(names), len(set(names)), name)
            defined = []
            for node in tree.body[1:]:
                self.assertIsInstance(node, (ast.ImportFrom, ast.FunctionDef, ast.ClassDef, ast.Assign), name)
                if isinstance(node, ast.FunctionDef):
                    defined.append(node.name)
                if isinstance(node, ast.Assign):
                    for part in ast.walk(node.value):
                        plain = isinstance(part, (ast.Constant, ast.Tuple, ast.List, ast.Dict, ast.Name, ast.Load))
                        self.assertTrue(plain, name)
                        if isinstance(part, ast.Name):
                            self.assertIn(part.id, defined, name)

    def test_imports(self):
        drawn = {}
        tops = {name[:-3]: tree for name, text, tree in modules()}
        for name, tree in tops.items():
            drawn[name] = []
            for node in [node for node in ast.walk(tree) if isinstance(node, ast.ImportFrom)]:
                package, source = node.module.split(".")
                self.assertEqual((package, node.level), ("lesserchip", 0))
                own = [part.name for part in tops[source].body if isinstance(part, (ast.FunctionDef, ast.ClassDef))]
                own += [part.targets[0].id for part in tops[source].body if isinstance(part, ast.Assign)]
                for alias in node.names:
                    self.assertIn(alias.name, own, name)
                    self.assertIsNone(alias.asname)
                drawn[name].append(source)
        while drawn:
            free = [name for name in drawn if not any(source in drawn for source in drawn[name])]
            self.assertNotEqual(free, [], "files that draw from one another")
            for name in free:
                drawn.pop(name)

    def test_names(self):
        for name, text, tree in modules():
            tops = bound_names(tree)
            imports = [alias.name for node in tree.body if isinstance(node, ast.ImportFrom) for alias in node.names]
            classes = [node.name for node in tree.body if isinstance(node, ast.ClassDef)]
            for function in functions(tree):
                for local in locals_of(function):
                    self.assertNotIn(local, dir(builtins) + imports + classes + NOWHERE + NOT_NAMES, name)
                    self.assertRegex(local, "^[a-zA-Z]", name)
                known = tops + locals_of(function) + PYTHONS_OWN
                for node in ast.walk(function):
                    if isinstance(node, ast.Name):
                        self.assertIn(node.id, known, name)
            for top in tops:
                self.assertNotIn(top, dir(builtins) + NOWHERE + NOT_NAMES, name)
                self.assertRegex(top, "^[a-zA-Z]", name)

    def test_attributes(self):
        stored = set()
        for name, text, tree in modules():
            for node in ast.walk(tree):
                if isinstance(node, ast.Attribute) and isinstance(node.ctx, ast.Store):
                    stored.add(node.attr)
        for value in (0, "", [], {}, (), set(), b""):
            self.assertEqual(stored & set(dir(value)), set())
        for name, text, tree in modules():
            called = [node.func.attr for node in ast.walk(tree)
                      if isinstance(node, ast.Call) and isinstance(node.func, ast.Attribute)]
            self.assertEqual([attr for attr in called if attr not in METHODS], [], name)
            for node in ast.walk(tree):
                if isinstance(node, ast.Attribute):
                    self.assertIn(node.attr, sorted(stored) + METHODS, name)
                    self.assertNotIn(node.attr, NOWHERE, name)


if __name__ == "__main__":
    unittest.main()
