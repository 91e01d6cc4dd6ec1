"""The package's files keep to what can be seen at a glance of ../shared/LANGUAGE.md; not every rule is held here."""

import ast
import builtins
import pathlib
import re
import unittest

PACKAGE = pathlib.Path(__file__).resolve().parent.parent / "knotloom"

NODES = set("""
    Module FunctionDef ClassDef Return Assign AugAssign For While If Raise Try ExceptHandler ImportFrom alias Expr Pass
    Break Continue BoolOp And Or BinOp Add Sub Mult FloorDiv Mod Pow LShift RShift BitOr BitXor BitAnd UnaryOp Invert
    Not UAdd USub Lambda IfExp Dict Set ListComp comprehension Compare Eq NotEq Lt LtE Gt GtE Is IsNot In NotIn Call
    keyword FormattedValue JoinedStr Constant Attribute Subscript Name List Tuple Slice Load Store arguments arg
""".split())
OWN_NAMES = set("""
    len range enumerate zip min max sum abs sorted reversed int str bool list tuple dict set frozenset isinstance ord
    repr any all divmod Exception ValueError TypeError KeyError IndexError LookupError ZeroDivisionError
    ArithmeticError OverflowError RuntimeError NotImplementedError AttributeError StopIteration
""".split())
PYTHONS_METHODS = set("""
    append clear copy count endswith extend find get index insert isalnum isalpha isdigit islower isspace isupper items
    join keys ljust lower lstrip partition pop remove replace reverse rfind rjust rpartition rsplit rstrip setdefault
    split splitlines startswith strip update upper values zfill bit_length
""".split())
WORDS = re.compile(r"\b(type|typing|typing_extensions|enum|Enum|IntEnum|StrEnum|Flag|IntFlag|Generic|Protocol|ABC|"
                   r"ABCMeta|namedtuple|NamedTuple|TypedDict|TYPE_CHECKING|abstractmethod)\b|"
                   r"dataclass|overload|contextmanager")


WALKED = ("range", "zip", "enumerate", "reversed", "items", "keys", "values")
WALKERS = ("list", "tuple", "dict", "sorted", "sum", "any", "all", "enumerate", "zip", "min", "max", "join")
TOP = (ast.Expr, ast.ImportFrom, ast.FunctionDef, ast.ClassDef, ast.Assign)
CLASS_PARTS = (ast.FunctionDef, ast.Expr, ast.Pass)


def files():
    return sorted(path for path in PACKAGE.rglob("*") if "__pycache__" not in path.parts and path.is_file())


def trees():
    return [(path.name, ast.parse(path.read_text())) for path in files()]


def defined_names():
    """All names that the package defines or gives a value, attributes and methods too."""
    found = set()
    for name, tree in trees():
        for node in ast.walk(tree):
            if isinstance(node, (ast.FunctionDef, ast.ClassDef)):
                found.add(node.name)
            elif isinstance(node, ast.arg):
                found.add(node.arg)
            elif isinstance(node, ast.Name) and isinstance(node.ctx, ast.Store):
                found.add(node.id)
            elif isinstance(node, ast.Attribute) and isinstance(node.ctx, ast.Store):
                found.add(node.attr)
    return found


def called(node):
    """The name of what is called, if the node is a call."""
    if not isinstance(node, ast.Call):
        return None
    return node.func.attr if isinstance(node.func, ast.Attribute) else getattr(node.func, "id", None)


def form_faults(tree):
    """The rows and rules of forms that L3, L4, L5, L6, L7, L20, L22 and L23 rule out."""
    found = [(node.lineno, "L3") for node in tree.body if not isinstance(node, TOP)]
    walked = [node.iter for node in ast.walk(tree) if isinstance(node, (ast.For, ast.comprehension))]
    walked += [call.args[0] for call in ast.walk(tree) if called(call) in WALKERS and call.args]
    for node in ast.walk(tree):
        if isinstance(node, ast.arguments) and (node.kwonlyargs or node.posonlyargs or node.vararg or node.kwarg):
            found.append((tree.body[0].lineno, "L4"))
        if isinstance(node, ast.ClassDef):
            found += [(part.lineno, "L5") for part in node.body if not isinstance(part, CLASS_PARTS)]
        if isinstance(node, ast.Try) and (node.finalbody or any(handler.type is None for handler in node.handlers)):
            found.append((node.lineno, "L6"))
        if isinstance(node, ast.FormattedValue) and not (isinstance(node.value, ast.Name) and node.format_spec is None):
            found.append((node.lineno, "L7"))
        if isinstance(node, ast.ListComp) and (len(node.generators) > 1 or len(node.generators[0].ifs) > 1):
            found.append((node.lineno, "L7"))
        if isinstance(node, ast.Compare) and isinstance(node.ops[0], (ast.Is, ast.IsNot)):
            if not any(getattr(node.comparators[0], "value", 0) is value for value in (None, True, False)):
                found.append((node.lineno, "L20"))
        if isinstance(node, ast.Call) and node.keywords:
            if not {key.arg for key in node.keywords} <= {"key", "reverse", "default", "start", "strict"}:
                found.append((node.lineno, "L22"))
        if called(node) in WALKED and not any(node is other for other in walked):
            found.append((node.lineno, "L23"))
    return found


def methods_and_values(all_trees):
    """The names that classes have as methods, and those that are given to objects as values."""
    nodes = [node for name, tree in all_trees for node in ast.walk(tree)]
    methods = {part.name for node in nodes if isinstance(node, ast.ClassDef) for part in node.body
               if isinstance(part, ast.FunctionDef)}
    return methods, {node.attr for node in nodes if isinstance(node, ast.Attribute) and isinstance(node.ctx, ast.Store)}


class Language(unittest.TestCase):
    def test_files_signs_and_sizes(self):
        self.assertIn(PACKAGE / "__init__.py", files())
        for path in files():
            with self.subTest(path.name):
                self.assertRegex(path.name, r"^[a-z0-9_]+\.py$")
                text = path.read_bytes()
                self.assertEqual([byte for byte in text if byte != 10 and not 32 <= byte <= 126], [])
                lines = text.decode().split("\n")
                self.assertLessEqual(len(lines), 400)
                self.assertLessEqual(max(len(line) for line in lines), 120)
                self.assertIsNone(WORDS.search(text.decode()))

    def test_forms(self):
        for name, tree in trees():
            for node in ast.walk(tree):
                with self.subTest(name, node=ast.dump(node)[:80]):
                    self.assertIn(node.__class__.__name__, NODES)
                    if isinstance(node, (ast.For, ast.While)):
                        self.assertEqual(node.orelse, [])
                    if isinstance(node, ast.Assign):
                        self.assertEqual(len(node.targets), 1)
                    if isinstance(node, ast.FunctionDef):
                        self.assertLessEqual(node.end_lineno - node.lineno + 1, 40)
                        self.assertEqual(node.decorator_list, [])
                        self.assertIsNone(node.args.vararg or node.args.kwarg)
                    if isinstance(node, ast.Constant):
                        self.assertIn(node.value.__class__, (int, str, bool, None.__class__))

    def test_imports(self):
        for name, tree in trees():
            for node in ast.walk(tree):
                if isinstance(node, ast.ImportFrom):
                    self.assertIn(node, tree.body)
                    self.assertEqual(node.level, 0)
                    self.assertRegex(node.module, r"^knotloom\.[a-z0-9_]+$")
                    self.assertNotIn("*", [alias.name for alias in node.names])

    def test_names(self):
        known = defined_names()
        for name in sorted(known):
            self.assertTrue(name == "__init__" or not name.startswith("_"), name)
            self.assertNotIn(name, dir(builtins))
        for name, tree in trees():
            for node in ast.walk(tree):
                if isinstance(node, ast.Name):
                    self.assertIn(node.id, known | OWN_NAMES, name)
                if isinstance(node, ast.Attribute):
                    self.assertIn(node.attr, known | PYTHONS_METHODS, name)

    def test_more_forms(self):
        for name, tree in trees():
            self.assertEqual(form_faults(tree), [], name)

    def test_form_faults_are_found(self):
        for text, rule in [
            ("for x in y: pass", "L3"), ("def f(*, a): pass", "L4"), ("class C:\n    a = 1", "L5"),
            ("def f():\n    try: pass\n    except: pass", "L6"), ("a = f'{b[0]}'", "L7"), ("a = f'{b:3}'", "L7"),
            ("a = [x for y in z for x in y]", "L7"), ("a = b is 3", "L20"), ("a = f(b=1)", "L22"),
            ("a = range(3)", "L23"), ("a = list(reversed(range(3)))", "L23"), ("a = d.items()", "L23"),
        ]:
            with self.subTest(text):
                self.assertIn(rule, [fault[1] for fault in form_faults(ast.parse(text))])

    def test_no_name_is_a_method_and_a_value(self):
        methods, values = methods_and_values(trees())
        self.assertEqual(methods & values, set())

    def test_locals_are_not_called_like_imports_or_classes(self):
        for name, tree in trees():
            taken = {node.name for node in tree.body if isinstance(node, ast.ClassDef)}
            taken |= {alias.name for node in tree.body if isinstance(node, ast.ImportFrom) for alias in node.names}
            bound = {node.arg for node in ast.walk(tree) if isinstance(node, ast.arg)}
            names = [node for node in ast.walk(tree) if isinstance(node, ast.Name)]
            bound |= {node.id for node in names if isinstance(node.ctx, ast.Store)}
            self.assertEqual(taken & bound, set(), name)

    def test_imports_name_the_file_that_defines_and_go_round_in_no_ring(self):
        draws = {}
        defines = {}
        for name, tree in trees():
            module = "knotloom." + name.removesuffix(".py")
            drawn = [node for node in tree.body if isinstance(node, ast.ImportFrom)]
            draws[module] = {node.module: [alias.name for alias in node.names] for node in drawn}
            defines[module] = {node.name for node in tree.body if isinstance(node, (ast.FunctionDef, ast.ClassDef))}
            defines[module] |= {node.targets[0].id for node in tree.body if isinstance(node, ast.Assign)}
        for module in draws:
            for other, names in draws[module].items():
                self.assertLessEqual(set(names), defines[other])
        free = set()
        while len(free) < len(draws):
            more = {module for module in draws if module not in free and set(draws[module]) <= free}
            self.assertTrue(more, "a ring of imports")
            free |= more
