"""The rules of ../shared/LANGUAGE.md, as far as a look at the source can see them.

Not all of them are held here: what stands in no list below is for the writer's eye.
"""

import ast
import builtins
import pathlib
import re
import unittest

PACKAGE = pathlib.Path(__file__).resolve().parent.parent / "allsome"

# L6, L7: whatever is none of these is sent back.
NODES = """
Module Expr FunctionDef ClassDef arguments arg Lambda Return Assign AugAssign For While If Raise Try ExceptHandler
Pass Break Continue ImportFrom alias BoolOp And Or BinOp Add Sub Mult FloorDiv Mod Pow LShift RShift BitOr BitXor BitAnd
UnaryOp Not USub UAdd Invert IfExp Dict Set ListComp comprehension Compare Eq NotEq Lt LtE Gt GtE Is IsNot In NotIn
Call keyword FormattedValue JoinedStr Constant Attribute Subscript Name List Tuple Slice Load Store
""".split()

# L8: Python's own names that may be used.
OWN_NAMES = """
len range enumerate zip min max sum abs sorted reversed int str bool list tuple dict set frozenset isinstance ord repr
any all divmod Exception ValueError TypeError KeyError IndexError LookupError ZeroDivisionError ArithmeticError
OverflowError RuntimeError NotImplementedError AttributeError StopIteration
""".split()

# L17: words that stand nowhere, remarks and texts too.
WORDS = """
type typing typing_extensions enum Enum IntEnum StrEnum Flag IntFlag Generic Protocol ABC ABCMeta namedtuple NamedTuple
TypedDict TYPE_CHECKING abstractmethod
""".split()
PARTS_OF_WORDS = ["dataclass", "overload", "contextmanager"]

# L25: the methods of Python's own values.
METHODS = """
append clear copy count endswith extend find get index insert isalnum isalpha isdigit islower isspace isupper items
join keys ljust lower lstrip partition pop remove replace reverse rfind rjust rpartition rsplit rstrip setdefault split
splitlines startswith strip update upper values zfill bit_length
""".split()
# L22: keywords of Python's own, L23: what is walked on the spot, and where.
KEYWORDS = {"sorted": ["key", "reverse"], "min": ["key", "default"], "max": ["key", "default"], "sum": ["start"],
            "enumerate": ["start"], "zip": ["strict"]}
WALKED = ["zip", "enumerate", "reversed", "range"]
WALKED_METHODS = ["items", "keys", "values"]
WALKERS = ["list", "tuple", "dict", "sorted", "sum", "any", "all", "enumerate", "zip"]
TWO_UNDERSCORES = ["__init__", "__eq__", "__repr__", "__str__", "__len__"]


def sources():
    """The package's files, each with its text and its tree."""
    found = []
    for path in sorted(PACKAGE.rglob("*.py")):
        text = path.read_text(encoding="utf-8")
        found.append((path, text, ast.parse(text)))
    return found


def bound_names(node):
    """The names that a node binds."""
    if isinstance(node, (ast.FunctionDef, ast.ClassDef)):
        return [node.name]
    if isinstance(node, ast.arg):
        return [node.arg]
    if isinstance(node, ast.Name) and isinstance(node.ctx, ast.Store):
        return [node.id]
    if isinstance(node, ast.alias):
        return [node.asname or node.name]
    return []


def drawn_from(tree):
    """The package's modules from which a module draws."""
    return [node.module for node in ast.walk(tree) if isinstance(node, ast.ImportFrom)]


def is_walked_at_once(node, above):
    """Whether what stands above a call walks it on the spot."""
    if isinstance(above, (ast.For, ast.comprehension)):
        return above.iter is node
    if not isinstance(above, ast.Call) or above.args[:1] != [node]:
        return False
    if isinstance(above.func, ast.Attribute):
        return above.func.attr == "join" and isinstance(above.func.value, ast.Constant)
    return above.func.id in WALKERS or (above.func.id in ("min", "max") and len(above.args) == 1)


class LanguageTest(unittest.TestCase):
    def walk(self):
        for path, text, tree in sources():
            for node in ast.walk(tree):
                yield f"{path.name}:{getattr(node, 'lineno', 0)}", node

    def test_files(self):
        for path in PACKAGE.rglob("*"):
            if "__pycache__" not in path.parts:
                self.assertTrue(re.fullmatch(r"[a-z0-9_]+\.py", path.name), path)
        self.assertTrue((PACKAGE / "__init__.py").is_file())

    def test_signs_and_sizes(self):
        for path, text, tree in sources():
            lines = text.split("\n")
            self.assertTrue(all(sign == "\n" or " " <= sign <= "~" for sign in text), path)
            self.assertLessEqual(len(lines), 401, path)
            self.assertTrue(all(len(line) <= 120 for line in lines), path)
            for node in ast.walk(tree):
                if isinstance(node, ast.FunctionDef):
                    self.assertLessEqual(node.end_lineno - node.lineno + 1, 40, (path, node.name))

    def test_words(self):
        for path, text, tree in sources():
            for word in re.findall(r"\w+", text):
                self.assertNotIn(word, WORDS, path)
            for part in PARTS_OF_WORDS:
                self.assertNotIn(part, text, path)

    def test_forms(self):
        for place, node in self.walk():
            self.assertIn(node.__class__.__name__, NODES, place)
            if isinstance(node, ast.Assign):
                self.assertEqual(len(node.targets), 1, place)
            if isinstance(node, (ast.For, ast.While)):
                self.assertEqual(node.orelse, [], place)
            if isinstance(node, ast.Try):
                self.assertEqual(node.finalbody, [], place)
            if isinstance(node, ast.ListComp):
                self.assertEqual(len(node.generators), 1, place)
                self.assertLessEqual(len(node.generators[0].ifs), 1, place)
            if isinstance(node, ast.Constant):
                self.assertTrue(node.value is None or isinstance(node.value, (int, str)), place)

    def test_functions_and_classes(self):
        for place, node in self.walk():
            if isinstance(node, (ast.FunctionDef, ast.ClassDef)):
                self.assertEqual(node.decorator_list, [], place)
            if isinstance(node, ast.arguments):
                self.assertIsNone(node.vararg or node.kwarg, place)
                self.assertEqual(node.kwonlyargs + node.posonlyargs, [], place)
            if isinstance(node, ast.ClassDef):
                self.assertLessEqual(len(node.bases), 1, place)
                for part in node.body:
                    self.assertIsInstance(part, (ast.FunctionDef, ast.Expr, ast.Pass), place)

    def test_imports(self):
        draws = {}
        for path, text, tree in sources():
            draws["allsome." + path.stem] = drawn_from(tree)
            for node in ast.walk(tree):
                if isinstance(node, ast.ImportFrom):
                    self.assertIn(node, tree.body, path)
                    self.assertEqual(node.level, 0, path)
                    self.assertTrue(node.module.startswith("allsome."), path)
                    self.assertNotIn("*", [name.name for name in node.names], path)
        while draws:
            free = [name for name in draws if not any(module in draws for module in draws[name])]
            self.assertTrue(free, "modules draw from one another")
            for name in free:
                del draws[name]

    def test_names(self):
        for path, text, tree in sources():
            tops = []
            for part in tree.body:
                bindings = part.names if isinstance(part, ast.ImportFrom) else getattr(part, "targets", [part])
                tops += [name for node in bindings for name in bound_names(node)]
            self.assertEqual(len(tops), len(set(tops)), path)
            methods = [id(part) for node in tree.body if isinstance(node, ast.ClassDef) for part in node.body]
            for node in ast.walk(tree):
                for name in bound_names(node):
                    if id(node) in methods and name in TWO_UNDERSCORES:
                        continue
                    self.assertRegex(name, r"^[A-Za-z][A-Za-z0-9_]*$", path)
                    self.assertTrue(id(node) in methods or not hasattr(builtins, name), (path, name))
                if isinstance(node, ast.Name) and hasattr(builtins, node.id):
                    self.assertIn(node.id, OWN_NAMES, path)

    def test_locals_are_called_like_no_import_and_no_class(self):
        for path, text, tree in sources():
            taken = [name for part in ast.walk(tree) if isinstance(part, ast.alias) for name in bound_names(part)]
            taken += [part.name for part in tree.body if isinstance(part, ast.ClassDef)]
            for node in ast.walk(tree):
                if isinstance(node, (ast.arg, ast.Name)):
                    for name in bound_names(node):
                        self.assertNotIn(name, taken, (path, node.lineno))

    def test_methods(self):
        own = [part.name for place, node in self.walk() if isinstance(node, ast.ClassDef)
               for part in node.body if isinstance(part, ast.FunctionDef)]
        for place, node in self.walk():
            if isinstance(node, ast.Call) and isinstance(node.func, ast.Attribute):
                self.assertIn(node.func.attr, METHODS + own, place)

    def test_walked_at_once(self):
        for path, text, tree in sources():
            for above in ast.walk(tree):
                for node in ast.iter_child_nodes(above):
                    func = getattr(node, "func", None)
                    if getattr(func, "id", None) in WALKED or getattr(func, "attr", None) in WALKED_METHODS:
                        self.assertTrue(is_walked_at_once(node, above), (path, node.lineno))

    def test_keywords(self):
        for place, node in self.walk():
            if isinstance(node, ast.Call) and node.keywords:
                self.assertIsInstance(node.func, ast.Name, place)
                for keyword in node.keywords:
                    self.assertIn(keyword.arg, KEYWORDS.get(node.func.id, []), place)

    def test_no_name_is_a_method_here_and_a_value_there(self):
        methods, values = set(), set()
        for place, node in self.walk():
            if isinstance(node, ast.ClassDef):
                methods |= {part.name for part in node.body if isinstance(part, ast.FunctionDef)}
            if isinstance(node, ast.Attribute) and isinstance(node.ctx, ast.Store):
                self.assertIsInstance(node.value, ast.Name, place)
                values.add(node.attr)
        self.assertEqual(methods & values, set())
        python_s = {name for kind in (str, int, list, dict, set, tuple, bytes) for name in vars(kind)}
        self.assertEqual((methods | values) & python_s - set(TWO_UNDERSCORES), set())

    def test_numbers_and_texts(self):
        for place, node in self.walk():
            if isinstance(node, ast.BinOp) and isinstance(node.op, ast.Pow):
                self.assertIsInstance(node.right, ast.Constant, place)
            if isinstance(node, ast.Constant) and isinstance(node.value, str):
                self.assertNotIn("%", node.value, place)

    def test_tops(self):
        for path, text, tree in sources():
            kept = {}
            for part in tree.body:
                self.assertIsInstance(part, (ast.Expr, ast.ImportFrom, ast.FunctionDef, ast.ClassDef, ast.Assign), path)
                if isinstance(part, ast.Assign) and isinstance(part.value, (ast.List, ast.Dict)):
                    kept[part.targets[0].id] = part
            self.check_only_read(path, tree, kept)

    def check_only_read(self, path, tree, kept):
        """What a file's top keeps in a list or dict is read alone (L15)."""
        for above in ast.walk(tree):
            for node in ast.iter_child_nodes(above):
                if isinstance(node, ast.Name) and node.id in kept and isinstance(node.ctx, ast.Load):
                    read = isinstance(above, (ast.Compare, ast.For, ast.comprehension))
                    read = read or (isinstance(above, ast.Subscript) and isinstance(above.ctx, ast.Load))
                    read = read or (isinstance(above, ast.Attribute) and above.attr == "get")
                    self.assertTrue(read, (path, node.lineno))

    def test_is_stands_beside_none_true_and_false(self):
        for place, node in self.walk():
            if isinstance(node, ast.Compare) and any(isinstance(op, (ast.Is, ast.IsNot)) for op in node.ops):
                self.assertIn(repr(getattr(node.comparators[-1], "value", 0)), ["None", "True", "False"], place)


if __name__ == "__main__":
    unittest.main()
