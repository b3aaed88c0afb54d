"""Holds the files of the package against the rules of the subset of Python that it is written in."""

import ast
import builtins
import functools
import pathlib
import unittest

ROOT = pathlib.Path(__file__).resolve().parent.parent / "allzooms"
LIBRARY = {
    "math": ("gcd", "lcm", "isqrt", "comb", "perm", "factorial"),
    "itertools": ("product", "combinations", "permutations"),
}
BUILTINS = """len range enumerate zip min max sum abs sorted reversed int str bool list tuple dict set isinstance ord repr
any all divmod iter next map Exception ValueError TypeError KeyError IndexError LookupError ZeroDivisionError
ArithmeticError OverflowError RuntimeError NotImplementedError AttributeError StopIteration NotImplemented super
property staticmethod classmethod""".split()
METHODS = """append clear copy count endswith extend find get index insert isalnum isalpha isdigit islower isspace isupper
items join keys ljust lower lstrip partition pop remove replace reverse rfind rjust rpartition rsplit rstrip setdefault
split splitlines startswith strip update upper values zfill bit_length title capitalize swapcase casefold center
expandtabs removeprefix removesuffix rindex isascii isdecimal isnumeric istitle isidentifier isprintable""".split()
DOUBLE = """init eq repr str len enter exit call iter lt le gt ge ne add sub mul floordiv mod pow and or xor lshift rshift
radd rsub rmul rfloordiv rmod rand ror rxor neg pos invert abs bool contains getitem setitem""".split()
NEVER = """register mro elements open input law version_info with_traceback add_note attrgetter breakpoint builtins compile
copyright credits delattr dir eval exec exit gc getattr globals hasattr help id importlib license locals methodcaller os
quit setattr type vars sys""".split()
NEVER_IN_TEXT = """typing typing_extensions enum Enum IntEnum StrEnum Flag IntFlag Generic Protocol ABC ABCMeta namedtuple
NamedTuple TypedDict TYPE_CHECKING abstractmethod (type) Meta metaclass= dataclass overload contextmanager _wall
_WallAttr""".split()
INSIDE_WORDS = ("dataclass", "overload", "contextmanager", "(type)", "Meta", "metaclass=")
NOT_ATTRIBUTES = """items keys values pop update append clear extend insert remove reverse setdefault sort args encode
decode hex fromhex format as_integer_ratio bit_count conjugate from_bytes is_integer to_bytes real imag numerator
denominator format_map mro""".split()
BARRED = (ast.Global, ast.AsyncFunctionDef, ast.Await, ast.AsyncFor, ast.AsyncWith, ast.Div, ast.Is, ast.IsNot)
STATEMENTS = (ast.ImportFrom, ast.FunctionDef, ast.ClassDef, ast.Assign, ast.Expr)


def files():
    return sorted(ROOT.glob("*.py"))


@functools.lru_cache(maxsize=1)
def trees():
    return [(path.name, ast.parse(path.read_text())) for path in files()]


def nodes(*kinds):
    return [(name, node) for name, tree in trees() for node in ast.walk(tree) if isinstance(node, kinds)]


def classes():
    return [node for _, node in nodes(ast.ClassDef)]


def methods(of, decorated):
    """The names of the methods of a class with one of these decorators; without any for ()."""
    found = []
    for node in of.body:
        if isinstance(node, ast.FunctionDef):
            told = tuple(getattr(decorator, "id", "setter") for decorator in node.decorator_list)
            if told in [(name,) for name in decorated] or not told and not decorated:
                found.append(node.name)
    return found


def attributes():
    """The names of all attributes that are assigned."""
    return {node.attr for _, node in nodes(ast.Attribute) if isinstance(node.ctx, ast.Store)}


def is_plain_number_or_string(node):
    if isinstance(node, ast.Constant):
        return isinstance(node.value, (int, str))
    if isinstance(node, ast.UnaryOp):
        return is_plain_number_or_string(node.operand)
    if isinstance(node, (ast.ListComp, ast.JoinedStr)):
        return isinstance(node, ast.JoinedStr) or is_plain_number_or_string(node.elt)
    told = getattr(node.func, "id", "") if isinstance(node, ast.Call) else ""
    return told in ("int", "str", "len", "ord", "repr") or told == "set" and is_plain_number_or_string(node.args[0])


class FormTest(unittest.TestCase):
    def test_files_and_lines(self):
        self.assertTrue((ROOT / "__init__.py").exists())
        for path in ROOT.iterdir():
            self.assertTrue(path.suffix == ".py" or path.name == "__pycache__", path)
        for path in files():
            text = path.read_text()
            self.assertTrue(path.stem.replace("_", "").isalnum() and path.stem.islower())
            self.assertLessEqual(len(text.splitlines()), 399, path.name)
            self.assertTrue(all(letter == "\n" or " " <= letter <= "~" for letter in text), path.name)
            for line in text.splitlines():
                self.assertLessEqual(len(line), 120, (path.name, line))
            words = "".join(letter if letter.isalnum() or letter == "_" else " " for letter in text).split()
            for word in NEVER_IN_TEXT:
                self.assertFalse(word in text if word in INSIDE_WORDS else word in words, (path.name, word))
            self.assertFalse(path.stem in dir(builtins) or path.stem in NEVER, path.name)

    def test_functions(self):
        for name, node in nodes(ast.FunctionDef):
            self.assertLessEqual(node.end_lineno - node.lineno + 1, 40, (name, node.name))
            self.assertIsNone(node.returns)
            for decorator in node.decorator_list:
                self.assertIn(ast.unparse(decorator), ("property", "staticmethod", "classmethod", f"{node.name}.setter"))
            for argument in [*node.args.args, *node.args.kwonlyargs]:
                self.assertIsNone(argument.annotation)
            if node.name.startswith("__"):
                self.assertIn(node.name.strip("_"), DOUBLE)

    def test_module_level_and_imports(self):
        for name, tree in trees():
            for at, node in enumerate(tree.body):
                self.assertIsInstance(node, STATEMENTS, name)
                if isinstance(node, ast.Expr):
                    self.assertEqual(at, 0)
                if isinstance(node, ast.Assign):
                    ahead = [part.name for part in tree.body[:at] if isinstance(part, ast.FunctionDef)]
                    for part in ast.walk(node.value):
                        is_plain = isinstance(part, (ast.Constant, ast.Tuple, ast.List, ast.Dict, ast.expr_context))
                        self.assertTrue(is_plain or isinstance(part, ast.Name) and part.id in ahead, name)
                if isinstance(node, ast.ImportFrom):
                    told = [alias.name for alias in node.names]
                    self.assertTrue(node.level == 0 and all(alias.asname is None for alias in node.names))
                    if node.module in LIBRARY:
                        self.assertTrue(set(told) <= set(LIBRARY[node.module]))
                        continue
                    self.assertTrue(node.module.startswith("allzooms."))
                    below = dict(trees())[node.module.split(".")[1] + ".py"]
                    here = [part.name for part in below.body if isinstance(part, (ast.FunctionDef, ast.ClassDef))]
                    here += [part.targets[0].id for part in below.body if isinstance(part, ast.Assign)]
                    self.assertTrue(set(told) <= set(here), (name, told))

    def test_no_imports_in_a_ring(self):
        below = {name: {node.module.split(".")[1] + ".py" for node in tree.body
                        if isinstance(node, ast.ImportFrom) and node.module.startswith("allzooms.")}
                 for name, tree in trees()}
        while below:
            ends = [name for name, others in below.items() if not others & set(below)]
            self.assertTrue(ends, below)
            below = {name: others for name, others in below.items() if name not in ends}

    def test_all_imports_are_used(self):
        for name, tree in trees():
            used = {node.id for node in ast.walk(tree) if isinstance(node, ast.Name)}
            for node in tree.body:
                if isinstance(node, ast.ImportFrom):
                    self.assertTrue({alias.name for alias in node.names} <= used, (name, ast.unparse(node)))

    def test_names(self):
        for name, tree in trees():
            top = {alias.name for node in tree.body if isinstance(node, ast.ImportFrom) for alias in node.names}
            top |= {node.name for node in tree.body if isinstance(node, ast.ClassDef)}
            for node in ast.walk(tree):
                told = []
                if isinstance(node, ast.arg):
                    told = [node.arg]
                elif isinstance(node, ast.Name) and isinstance(node.ctx, ast.Store):
                    told = [node.id]
                elif isinstance(node, ast.FunctionDef) and node in tree.body:
                    told = [node.name]
                for word in told:
                    self.assertNotIn(word, top, name)
                    self.assertFalse(word in dir(builtins) or word in NEVER, (name, word))
                    self.assertFalse(word.startswith("__"))
                if isinstance(node, ast.Name) and isinstance(node.ctx, ast.Load) and node.id in dir(builtins):
                    self.assertIn(node.id, BUILTINS, name)

    def test_names_of_methods_and_attributes(self):
        kept = attributes()
        plain = {name for one in classes() for name in methods(one, ()) if not name.startswith("__")}
        fixed = {name for one in classes() for name in methods(one, ("staticmethod", "classmethod"))}
        properties = {name for one in classes() for name in methods(one, ("property",))}
        for one, other in ((kept, plain), (kept, fixed), (kept, properties), (plain, fixed), (plain, properties),
                           (fixed, properties)):
            self.assertEqual(one & other, set())
        self.assertEqual(kept & set(NOT_ATTRIBUTES), set())
        self.assertEqual((plain | fixed | properties) & set(METHODS), set())
        called = {node.func.attr for _, node in nodes(ast.Call) if isinstance(node.func, ast.Attribute)}
        self.assertEqual(called - plain - fixed - set(METHODS) - {"__init__", "setter"}, set())
        read = {node.attr for _, node in nodes(ast.Attribute) if isinstance(node.ctx, ast.Load)}
        values = {part.targets[0].id for one in classes() for part in one.body if isinstance(part, ast.Assign)}
        self.assertEqual(read - kept - plain - fixed - properties - values - set(METHODS) - {"__init__", "setter"}, set())

    def test_statements_and_expressions(self):
        for name, node in nodes(*BARRED):
            self.assertIsInstance(node, (ast.Is, ast.IsNot), name)
        for name, node in nodes(ast.Compare):
            for operator, side in zip(node.ops, node.comparators):
                if isinstance(operator, (ast.Is, ast.IsNot)):
                    self.assertIn(getattr(side, "value", 0), (None, True, False), name)
        for name, node in nodes(ast.Constant):
            self.assertNotIsInstance(node.value, (float, complex, bytes))
            if isinstance(node.value, str):
                self.assertNotIn("%", node.value)
                self.assertFalse(node.value.startswith("__"))
        for name, node in nodes(ast.BinOp):
            if isinstance(node.op, ast.Pow):
                self.assertIsInstance(node.right, ast.Constant, name)
        for name, node in nodes(ast.Raise):
            if node.exc is not None:
                self.assertIsInstance(node.exc, ast.Call, name)
        for name, node in nodes(ast.Starred):
            if isinstance(node.value, ast.Call):
                self.fail((name, ast.unparse(node)))

    def test_calls(self):
        for name, node in nodes(ast.Call):
            told = getattr(node.func, "id", "")
            stars = [part.value for part in node.args if isinstance(part, ast.Starred)]
            self.assertTrue(all(isinstance(part, (ast.Name, ast.Attribute)) for part in stars), (name, ast.unparse(node)))
            if any(keyword.arg is None for keyword in node.keywords):
                beside = [*node.args, *[keyword.value for keyword in node.keywords]]
                self.assertTrue(all(isinstance(part, (ast.Name, ast.Attribute, ast.Constant, ast.Starred)) for part in beside),
                                (name, ast.unparse(node)))
                self.assertEqual(len(node.keywords), 1)
            if told in ("any", "all", "sum", "sorted", "min", "max"):
                self.assertNotIsInstance(node.args[0], ast.GeneratorExp, name)
            if told in ("sorted", "min", "max"):
                self.assertTrue(any(is_plain_number_or_string(part) for part in node.args), (name, ast.unparse(node)))
            for keyword in node.keywords:
                self.assertFalse(told in BUILTINS and keyword.arg not in ("key", "reverse", "default", "start", "strict"))

    def test_texts_lengths_and_equality_modify_nothing(self):
        for one in classes():
            for node in one.body:
                if not isinstance(node, ast.FunctionDef) or node.name not in ("__str__", "__repr__", "__len__", "__eq__"):
                    continue
                self.assertIsInstance(node.body[-1], ast.Return)
                for part in ast.walk(node):
                    self.assertNotIsInstance(part, (ast.Assign, ast.AugAssign, ast.Delete), (one.name, node.name))
                    if isinstance(part, ast.Return) and node.name == "__str__":
                        self.assertIsInstance(part.value, (ast.JoinedStr, ast.Call), one.name)
                    if isinstance(part, ast.Return) and node.name == "__len__":
                        self.assertEqual(part.value.func.id, "len")

    def test_augmented_assignments_count_only(self):
        for name, node in nodes(ast.AugAssign):
            is_one = isinstance(node.value, ast.Constant) and isinstance(node.value.value, int)
            self.assertTrue(is_one, (name, ast.unparse(node)))


if __name__ == "__main__":
    unittest.main()
