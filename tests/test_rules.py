"""Rules of LANGUAGE.md that can be seen in the files of the package."""

import ast
import builtins
import os
import unittest

ROOT = os.path.join(os.path.dirname(os.path.dirname(os.path.abspath(__file__))), "tilesregrow")

# L2: what may be imported from outside.
LIBRARY = {
    "heapq": ("heappush", "heappop", "heapify", "heapreplace", "heappushpop"),
    "math": ("gcd", "lcm", "isqrt", "comb", "perm", "factorial"),
    "itertools": ("product", "combinations", "permutations", "chain", "accumulate", "pairwise", "islice",
                  "zip_longest"),
    "collections": ("defaultdict",),
}

# L8: the builtins that may be used.
BUILTINS = set("""len range enumerate zip min max sum abs sorted reversed int str bool list tuple dict set isinstance
    ord repr any all divmod pow getattr hasattr setattr map iter next Exception ValueError TypeError KeyError IndexError
    LookupError ZeroDivisionError ArithmeticError OverflowError RuntimeError NotImplementedError AttributeError
    StopIteration NotImplemented""".split())

# L25: the methods of builtin values.
METHODS = set("""append clear copy count endswith extend find get index insert isalnum isalpha isdigit islower isspace
    isupper items join keys ljust lower lstrip partition pop remove replace reverse rfind rjust rpartition rsplit rstrip
    setdefault split splitlines startswith strip update upper values zfill bit_length add discard format""".split())

# L12 and L17: words and names that stand nowhere.
WORDS = set("""_wall _WallAttr typing typing_extensions enum Enum IntEnum StrEnum Flag IntFlag Generic Protocol ABC
    ABCMeta namedtuple NamedTuple TypedDict TYPE_CHECKING abstractmethod""".split())
NAMES = set("""register mro elements open input law version_info with_traceback add_note attrgetter breakpoint builtins
    compile copyright credits delattr dir eval exec exit gc globals help id importlib license locals methodcaller os
    quit super type vars sys _cold _tuplegetter _outside _record _written_out _member_names""".split())
BEGINNINGS = ("_wall", "_pe_", "_dcw_", "_enum_", "_cm_", "_twin_re_", "_lay_", "_law_", "_stub_", "_sre", "_WallAttr")

SPECIAL = ("__init__", "__eq__", "__repr__", "__str__", "__len__", "__enter__", "__exit__", "__call__", "__iter__")

TOP = (ast.FunctionDef, ast.ClassDef, ast.ImportFrom, ast.Assign, ast.Expr)

BARRED = (ast.AsyncFunctionDef, ast.Await, ast.Global, ast.Div, ast.Import)


def files():
    return sorted(name for name in os.listdir(ROOT) if name != "__pycache__")


def text_of(name):
    with open(os.path.join(ROOT, name), encoding="utf-8", newline="") as file:
        return file.read()


def trees():
    return [(name, ast.parse(text_of(name))) for name in files()]


def nodes(kind):
    return [(name, node) for name, tree in trees() for node in ast.walk(tree) if isinstance(node, kind)]


def bound_names(node):
    if isinstance(node, ast.arg):
        return [node.arg]
    if isinstance(node, ast.Name) and not isinstance(node.ctx, ast.Load):
        return [node.id]
    if isinstance(node, (ast.FunctionDef, ast.ClassDef)):
        return [node.name]
    return []


class FilesTest(unittest.TestCase):
    def test_only_plain_files(self):
        self.assertIn("__init__.py", files())
        for name in files():
            self.assertRegex(name, r"^[a-z0-9_]+\.py$")

    def test_sizes_and_signs(self):
        for name in files():
            text = text_of(name)
            self.assertTrue(all(" " <= sign <= "~" or sign == "\n" for sign in text), name)
            lines = text.split("\n")
            self.assertLessEqual(len(lines) - 1, 399, name)
            self.assertLessEqual(max(len(line) for line in lines), 120, name)

    def test_functions_are_short(self):
        for name, node in nodes(ast.FunctionDef):
            self.assertLessEqual(node.end_lineno - node.lineno + 1, 40, (name, node.name))

    def test_barred_words(self):
        for name in files():
            for word in text_of(name).replace(".", " ").replace("(", " ").split():
                self.assertNotIn(word.strip("),:[]{}\"'`"), WORDS, name)


class NamesTest(unittest.TestCase):
    def test_imports(self):
        for name, node in nodes(ast.ImportFrom):
            words = [alias.name for alias in node.names]
            self.assertEqual([alias.asname for alias in node.names], [None] * len(words))
            if node.module in LIBRARY:
                self.assertTrue(all(word in LIBRARY[node.module] for word in words), name)
            else:
                self.assertRegex(node.module, r"^tilesregrow\.[a-z]+$")
                defined = ast.parse(text_of(node.module.split(".")[1] + ".py")).body
                own = [bound for top in defined for part in ast.walk(top) for bound in bound_names(part)]
                self.assertTrue(all(word in own for word in words), name)

    def test_top_of_files(self):
        for name, tree in trees():
            for node in tree.body:
                self.assertIsInstance(node, TOP, name)
                if isinstance(node, ast.Expr):
                    self.assertIsInstance(node.value, ast.Constant)
                if isinstance(node, ast.Assign):
                    self.assertIsInstance(ast.literal_eval(node.value), (int, str, tuple, list, dict))

    def test_builtins(self):
        own = {bound for _, tree in trees() for node in ast.walk(tree) for bound in bound_names(node)}
        for name, node in nodes(ast.Name):
            if isinstance(node.ctx, ast.Load) and hasattr(builtins, node.id):
                self.assertIn(node.id, BUILTINS, name)
        self.assertEqual([bound for bound in own if bound in dir(builtins)], [])

    def test_barred_names(self):
        for name, tree in trees():
            for node in ast.walk(tree):
                for bound in bound_names(node) + ([node.attr] if isinstance(node, ast.Attribute) else []):
                    self.assertNotIn(bound, NAMES, name)
                    self.assertFalse(bound.startswith("__") and bound not in SPECIAL, (name, bound))
                    self.assertTrue(bound.isascii(), name)
                for bound in bound_names(node):
                    self.assertFalse(bound.startswith(BEGINNINGS), (name, bound))

    def test_names_are_not_those_of_classes_or_imports(self):
        for name, tree in trees():
            top = [node.name for node in tree.body if isinstance(node, ast.ClassDef)]
            top += [alias.name for node in tree.body if isinstance(node, ast.ImportFrom) for alias in node.names]
            inner = [bound for node in ast.walk(tree) if isinstance(node, (ast.arg, ast.Name))
                     for bound in bound_names(node)]
            self.assertEqual([bound for bound in inner if bound in top], [], name)

    def test_methods_are_own_ones_or_told_ones(self):
        own = {node.name for _, node in nodes(ast.FunctionDef)}
        for name, node in nodes(ast.Call):
            if isinstance(node.func, ast.Attribute):
                self.assertIn(node.func.attr, own | METHODS, name)


class ClassesTest(unittest.TestCase):
    def test_no_name_is_a_method_and_an_attribute_of_a_class(self):
        for name, node in nodes(ast.ClassDef):
            methods = {part.name for part in node.body if isinstance(part, ast.FunctionDef)}
            told = {part.attr for part in ast.walk(node) if isinstance(part, ast.Attribute)
                    and isinstance(part.ctx, ast.Store) and ast.unparse(part.value) == "self"}
            self.assertEqual(methods & told, set(), (name, node.name))

    def test_attributes_that_are_read_are_assigned(self):
        stored = {node.attr for _, node in nodes(ast.Attribute) if isinstance(node.ctx, ast.Store)}
        own = {node.name for _, node in nodes(ast.FunctionDef)}
        for name, node in nodes(ast.Attribute):
            self.assertIn(node.attr, stored | own | METHODS, name)


class CallsTest(unittest.TestCase):
    def test_behind_stars_stand_names(self):
        for name, node in nodes(ast.Call):
            for passed in node.args:
                if isinstance(passed, ast.Starred):
                    self.assertIsInstance(passed.value, (ast.Name, ast.Attribute), name)

    def test_sets_are_not_changed(self):
        # A class has a method of this name.
        for name, node in nodes(ast.Call):
            if isinstance(node.func, ast.Attribute):
                self.assertNotIn(node.func.attr, ("add", "discard"), name)

    def test_imports_go_round_no_circle(self):
        uses = {name[:-3]: [] for name in files()}
        for name, node in nodes(ast.ImportFrom):
            if node.module.startswith("tilesregrow."):
                uses[name[:-3]].append(node.module.split(".")[1])
        while uses:
            free = [name for name in uses if not any(other in uses for other in uses[name])]
            self.assertNotEqual(free, [])
            for name in free:
                del uses[name]


class StatementsTest(unittest.TestCase):
    def test_finally_assigns_names_and_attributes_alone(self):
        for name, node in nodes(ast.Try):
            for part in node.finalbody:
                self.assertIsInstance(part, ast.Assign, name)
                for inner in ast.walk(part):
                    self.assertIsInstance(
                        inner, (ast.Assign, ast.Tuple, ast.Name, ast.Attribute, ast.Load, ast.Store), name)

    def test_own_errors_alone_are_caught(self):
        own = {node.name for name, node in nodes(ast.ClassDef) if name == "errors.py"}
        for name, node in nodes(ast.ExceptHandler):
            self.assertIn(ast.unparse(node.type), own, name)

    def test_barred_statements(self):
        for kind in BARRED:
            self.assertEqual(nodes(kind), [])

    def test_is_stands_beside_none_alone(self):
        for name, node in nodes(ast.Compare):
            for sign, other in zip(node.ops, node.comparators):
                if isinstance(sign, (ast.Is, ast.IsNot)):
                    self.assertIsInstance(other, ast.Constant, name)

    def test_errors_are_created_on_the_spot(self):
        for name, node in nodes(ast.Raise):
            self.assertIsInstance(node.exc, ast.Call, name)

    def test_constants(self):
        for name, node in nodes(ast.Constant):
            self.assertNotIsInstance(node.value, (float, complex), name)
            if isinstance(node.value, str):
                self.assertNotIn("%", node.value, name)


if __name__ == "__main__":
    unittest.main()
