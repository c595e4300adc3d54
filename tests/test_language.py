"""The rules of the program's Python subset that can be counted or looked up."""

import ast
import builtins
import tokenize
import unittest
from pathlib import Path

PACKAGE = Path(__file__).resolve().parent.parent / "unlikecalls"
FILES = sorted(PACKAGE.glob("*.py"))
BUILTINS = """len range enumerate zip min max sum abs sorted reversed int str bool bytes list tuple dict set frozenset
    isinstance ord repr any all divmod Exception ValueError TypeError KeyError IndexError LookupError ZeroDivisionError
    ArithmeticError OverflowError RuntimeError NotImplementedError AttributeError StopIteration NotImplemented iter next
    super property staticmethod classmethod map""".split()
BARRED_NAMES = "register mro elements open input law version_info with_traceback add_note".split()
BARRED_WORDS = """typing typing_extensions enum Enum IntEnum StrEnum Flag IntFlag Generic Protocol ABC ABCMeta namedtuple
    NamedTuple TypedDict TYPE_CHECKING abstractmethod _wall""".split()
BARRED_NODES = (ast.Global, ast.AsyncFunctionDef, ast.AsyncFor, ast.AsyncWith, ast.Await, ast.Div, ast.Import)
METHODS = """__init__ __eq__ __repr__ __str__ __len__ __enter__ __exit__ __call__ __iter__ __lt__ __le__ __gt__ __ge__
    __ne__ __add__ __radd__ __sub__ __mul__ __rshift__ __contains__ __getitem__ __setitem__""".split()


def trees():
    for path in FILES:
        yield path.name, ast.parse(path.read_text(encoding="utf-8"))


def docstrings(tree):
    """The nodes of the docstrings, in which more words may stand than in other strings."""
    for node in ast.walk(tree):
        if isinstance(node, (ast.Module, ast.ClassDef, ast.FunctionDef)):
            first = node.body[0]
            if isinstance(first, ast.Expr) and isinstance(first.value, ast.Constant):
                yield id(first.value)


class LanguageTest(unittest.TestCase):

    def test_files(self):
        others = [path.name for path in PACKAGE.iterdir() if path not in FILES and path.name != "__pycache__"]
        self.assertEqual(others, [])
        self.assertGreater(len(FILES), 4)

    def test_characters_and_sizes(self):
        for path in FILES:
            text = path.read_text(encoding="utf-8")
            self.assertEqual([sign for sign in text if sign != "\n" and not " " <= sign <= "~"], [], path.name)
            lines = text.split("\n")
            self.assertLessEqual(len(lines), 399, path.name)
            self.assertLessEqual(max([len(line) for line in lines]), 120, path.name)

    def test_functions(self):
        for name, tree in trees():
            for node in ast.walk(tree):
                if isinstance(node, ast.FunctionDef):
                    self.assertLessEqual(node.end_lineno - node.lineno + 1, 40, (name, node.name))
                    if node.name.startswith("__"):
                        self.assertIn(node.name, METHODS, name)

    def test_imports(self):
        for name, tree in trees():
            for node in ast.walk(tree):
                if isinstance(node, ast.ImportFrom):
                    self.assertIn(node, tree.body, name)
                    self.assertEqual(node.level, 0, name)
                    self.assertTrue(node.module.startswith("unlikecalls."), (name, node.module))
                    source = ast.parse((PACKAGE / f"{node.module.split('.')[1]}.py").read_text(encoding="utf-8"))
                    for alias in node.names:
                        self.assertIn(alias.name, bound_at_top(source), (name, alias.name))
                        self.assertIsNone(alias.asname)

    def test_module_level(self):
        for name, tree in trees():
            for node in tree.body:
                plain = (ast.Expr, ast.ImportFrom, ast.FunctionDef, ast.ClassDef, ast.Assign)
                self.assertIsInstance(node, plain, name)
            bound = bound_at_top(tree)
            self.assertEqual(len(bound), len(set(bound)), name)

    def test_barred_parts(self):
        for name, tree in trees():
            for node in ast.walk(tree):
                self.assertNotIsInstance(node, BARRED_NODES, name)
                if isinstance(node, ast.Constant):
                    self.assertNotIsInstance(node.value, (float, complex), name)
                if isinstance(node, ast.Constant) and isinstance(node.value, str):
                    self.assertNotIn(chr(37), node.value, name)

    def test_barred_names(self):
        for path in FILES:
            with tokenize.open(path) as source:
                words = [token.string for token in tokenize.generate_tokens(source.readline)
                         if token.type == tokenize.NAME]
            for word in BARRED_NAMES + BARRED_WORDS:
                self.assertNotIn(word, words, path.name)

    def test_barred_words_in_strings(self):
        for name, tree in trees():
            allowed = list(docstrings(tree))
            for node in ast.walk(tree):
                if isinstance(node, ast.Constant) and isinstance(node.value, str) and id(node) not in allowed:
                    for word in BARRED_WORDS:
                        self.assertNotIn(word, node.value.split(), name)

    def test_builtins(self):
        # Running examples, as other tests do, leaves a name _ among the builtins.
        known = [name for name in dir(builtins) if name != "_"]
        for name, tree in trees():
            for node in ast.walk(tree):
                if isinstance(node, ast.Name) and node.id in known:
                    self.assertIn(node.id, BUILTINS, (name, node.lineno))
                    self.assertIsInstance(node.ctx, ast.Load, (name, node.lineno))
                if isinstance(node, ast.arg):
                    self.assertNotIn(node.arg, known, (name, node.lineno))

    def test_no_name_of_the_file_is_used_otherwise(self):
        for name, tree in trees():
            classes = [node.name for node in tree.body if isinstance(node, ast.ClassDef)]
            imports = [alias.name for node in tree.body if isinstance(node, ast.ImportFrom) for alias in node.names]
            for node in ast.walk(tree):
                if isinstance(node, ast.arg):
                    self.assertNotIn(node.arg, classes + imports, (name, node.lineno))
                if isinstance(node, ast.Name) and isinstance(node.ctx, ast.Store):
                    self.assertNotIn(node.id, classes + imports, (name, node.lineno))

    def test_all_imports_are_used(self):
        for name, tree in trees():
            used = {node.id for node in ast.walk(tree) if isinstance(node, ast.Name)}
            for node in tree.body:
                if isinstance(node, ast.ImportFrom):
                    self.assertEqual([alias.name for alias in node.names if alias.name not in used], [], name)

    def test_stars_in_calls(self):
        properties = [method.name for _, tree in trees() for node in ast.walk(tree) if isinstance(node, ast.ClassDef)
                      for method in node.body if isinstance(method, ast.FunctionDef) and method.decorator_list]
        for name, tree in trees():
            for node in ast.walk(tree):
                if not isinstance(node, ast.Call):
                    continue
                stars = [part for part in node.args if isinstance(part, ast.Starred)]
                doubles = [part for part in node.keywords if part.arg is None]
                for part in (*node.args, *[each.value for each in doubles]) if stars or doubles else ():
                    part = part.value if isinstance(part, ast.Starred) else part
                    self.assertIsInstance(part, (ast.Name, ast.Attribute, ast.Constant), (name, node.lineno))
                    if isinstance(part, ast.Attribute):
                        self.assertNotIn(part.attr, properties, (name, node.lineno))
                        self.assertIsInstance(part.value, ast.Name, (name, node.lineno))

    def test_properties_are_not_called_nor_stored(self):
        properties = [method.name for _, tree in trees() for node in ast.walk(tree) if isinstance(node, ast.ClassDef)
                      for method in node.body if isinstance(method, ast.FunctionDef)
                      and [each.id for each in method.decorator_list if isinstance(each, ast.Name)] == ["property"]]
        self.assertGreater(len(properties), 20)
        for name, tree in trees():
            for node in ast.walk(tree):
                if isinstance(node, ast.Call) and isinstance(node.func, ast.Attribute):
                    self.assertNotIn(node.func.attr, properties, (name, node.lineno))
                if isinstance(node, ast.Attribute) and isinstance(node.ctx, ast.Store):
                    self.assertNotIn(node.attr, properties, (name, node.lineno))

    def test_what_is_sorted(self):
        """Signatures have orders, so sorted, min and max take what is plainly numbers or strings."""
        found = 0
        for name, tree in trees():
            for node in ast.walk(tree):
                if isinstance(node, ast.Call) and isinstance(node.func, ast.Name) and node.func.id in ("sorted", "min", "max"):
                    self.assertEqual(node.keywords, [], (name, node.lineno))
                    plain = is_plain_list(node.args[0]) if len(node.args) == 1 else any(map(is_plain, node.args))
                    self.assertTrue(plain, (name, node.lineno))
                    found += 1
                if isinstance(node, ast.Call) and isinstance(node.func, ast.Attribute):
                    self.assertNotEqual(node.func.attr, "sort", (name, node.lineno))
        self.assertGreater(found, 5)

    def test_no_attribute_has_the_name_of_a_method(self):
        methods = {method.name for _, tree in trees() for node in ast.walk(tree) if isinstance(node, ast.ClassDef)
                   for method in node.body if isinstance(method, ast.FunctionDef)}
        barred = {"items", "keys", "values", "pop", "update", "append", "clear", "extend", "insert", "remove", "reverse",
                  "setdefault", "sort", "args", "encode", "decode", "hex", "fromhex", "format"}
        for name, tree in trees():
            for node in ast.walk(tree):
                if isinstance(node, ast.Attribute) and isinstance(node.ctx, ast.Store):
                    self.assertNotIn(node.attr, methods | barred, (name, node.lineno))

    def test_no_property_has_the_name_of_a_plain_method(self):
        plain, others = set(), set()
        for _, tree in trees():
            for node in [each for each in ast.walk(tree) if isinstance(each, ast.ClassDef)]:
                for method in [each for each in node.body if isinstance(each, ast.FunctionDef)]:
                    (others if method.decorator_list else plain).add(method.name)
        self.assertEqual(plain & others, set())


def is_plain(node):
    """Whether this is plainly a number or a string."""
    if isinstance(node, ast.Call) and isinstance(node.func, ast.Name):
        return node.func.id in ("len", "int", "ord", "str", "repr")
    return isinstance(node, (ast.Constant, ast.JoinedStr))


def is_plain_list(node):
    """Whether this is a list of what is plainly numbers or strings."""
    if isinstance(node, ast.ListComp):
        return is_plain(node.elt)
    return isinstance(node, ast.List) and all(map(is_plain, node.elts))


def bound_at_top(tree):
    """The names that a file binds, those of imports included."""
    names = []
    for node in tree.body:
        if isinstance(node, (ast.FunctionDef, ast.ClassDef)):
            names.append(node.name)
        elif isinstance(node, ast.Assign):
            names.extend([target.id for target in node.targets])
        elif isinstance(node, ast.ImportFrom):
            names.extend([alias.name for alias in node.names])
    return names
