"""The package keeps to its small part of Python: what can be seen of the rules in its files."""

import ast
import builtins
import os
import re
import unittest

PACKAGE = os.path.join(os.path.dirname(os.path.dirname(os.path.abspath(__file__))), "fighterbreeding")

STATEMENTS = (ast.Assign, ast.AugAssign, ast.If, ast.While, ast.For, ast.Return, ast.Break, ast.Continue, ast.Pass,
              ast.Raise, ast.Try, ast.Expr, ast.FunctionDef, ast.ClassDef, ast.ImportFrom)
EXPRESSIONS = (ast.BoolOp, ast.BinOp, ast.UnaryOp, ast.Lambda, ast.IfExp, ast.Dict, ast.ListComp, ast.Compare, ast.Call,
               ast.Constant, ast.Attribute, ast.Subscript, ast.Slice, ast.Name, ast.List, ast.Tuple)
OWN_NAMES = set("""len range enumerate zip min max sum abs sorted reversed int str bool list tuple dict set frozenset
    isinstance ord repr any all divmod Exception ValueError TypeError KeyError IndexError LookupError ZeroDivisionError
    ArithmeticError OverflowError RuntimeError NotImplementedError StopIteration""".split())
METHODS = set("""append clear copy count endswith extend find get index insert isalnum isalpha isdigit islower isspace
    isupper items join keys ljust lower lstrip partition pop remove replace reverse rfind rjust rpartition rsplit rstrip
    setdefault split splitlines startswith strip update upper values zfill bit_length""".split())
WORDS = re.compile(r"\b(type|typing|typing_extensions|enum|Enum|IntEnum|StrEnum|Flag|IntFlag|Generic|Protocol|ABC|ABCMeta"
                   r"|namedtuple|NamedTuple|TypedDict|TYPE_CHECKING|abstractmethod)\b|dataclass|overload|contextmanager")
UNUSED = set("register mro elements open input version_info with_traceback add_note format format_map".split())
TAKEN = {name for kind in (str, int, list, dict, set, bytes) for name in dir(kind)}


def files():
    return sorted(name for name in os.listdir(PACKAGE) if name != "__pycache__")


def text_of(name):
    with open(os.path.join(PACKAGE, name), encoding="utf-8") as file:
        return file.read()


def trees():
    return [(name, ast.parse(text_of(name))) for name in files()]


def nodes(kind):
    return [(name, node) for name, parsed in trees() for node in ast.walk(parsed) if isinstance(node, kind)]


def bound_at_top(parsed):
    names = []
    for node in parsed.body:
        if isinstance(node, ast.ImportFrom):
            names += [alias.name for alias in node.names]
        if isinstance(node, (ast.FunctionDef, ast.ClassDef)):
            names.append(node.name)
        if isinstance(node, ast.Assign):
            names += [target.id for target in node.targets]
    return names


def drawn_from(parsed):
    return {node.module.split(".")[1] + ".py" for node in ast.walk(parsed) if isinstance(node, ast.ImportFrom)}


class FilesTest(unittest.TestCase):
    def test_files_and_signs(self):
        self.assertIn("__init__.py", files())
        for name in files():
            self.assertRegex(name, r"^([a-z][a-z0-9_]*|__init__)\.py$")
            self.assertFalse(name != "__init__.py" and hasattr(builtins, name[:-3]), name)
            text = text_of(name)
            self.assertRegex(text, r"\A[ -~\n]*\Z", name)
            self.assertIsNone(WORDS.search(text), name)

    def test_sizes(self):
        for name in files():
            rows = text_of(name).split("\n")
            self.assertLessEqual(len(rows), 400, name)
            self.assertLessEqual(max(len(row) for row in rows), 120, name)
        for name, node in nodes(ast.FunctionDef):
            self.assertLessEqual(node.end_lineno - node.lineno + 1, 40, (name, node.name))

    def test_imports_are_the_package_s_own_and_never_in_a_ring(self):
        for name, node in nodes((ast.Import, ast.ImportFrom)):
            self.assertIsInstance(node, ast.ImportFrom, name)
            self.assertRegex(node.module, r"^fighterbreeding\.[a-z_]+$")
            defined = ast.parse(text_of(node.module.split(".")[1] + ".py"))
            own = [part for part in defined.body if not isinstance(part, ast.ImportFrom)]
            for alias in node.names:
                self.assertIsNone(alias.asname)
                self.assertIn(alias.name, bound_at_top(ast.Module(own, [])), name)
        left = {name: drawn_from(parsed) for name, parsed in trees()}
        self.assertEqual(left["__init__.py"], set())
        while left:
            free = [name for name in left if not left[name] & set(left)]
            self.assertTrue(free, left)
            left = {name: left[name] for name in left if name not in free}


class FormsTest(unittest.TestCase):
    def test_statements_and_expressions(self):
        for name, node in nodes(ast.stmt):
            self.assertIsInstance(node, STATEMENTS, (name, node.lineno))
            self.assertFalse(isinstance(node, (ast.For, ast.While)) and node.orelse, (name, node.lineno))
        for name, node in nodes(ast.expr):
            self.assertIsInstance(node, EXPRESSIONS, (name, node.lineno))

    def test_small_forms(self):
        for name, node in nodes(ast.Assign):
            self.assertEqual(len(node.targets), 1, (name, node.lineno))
            self.assertNotIsInstance(node.targets[0], (ast.Tuple, ast.List), (name, node.lineno))
        for name, node in nodes(ast.ListComp):
            self.assertEqual(len(node.generators), 1, (name, node.lineno))
            self.assertLessEqual(len(node.generators[0].ifs), 1, (name, node.lineno))
        for name, node in nodes(ast.operator):
            self.assertNotIsInstance(node, (ast.Div, ast.MatMult, ast.Pow), name)
        for name, node in nodes(ast.Constant):
            self.assertTrue(node.value is None or isinstance(node.value, (int, str)), (name, node.lineno))
        for name, node in nodes(ast.Compare):
            if any(isinstance(op, (ast.Is, ast.IsNot)) for op in node.ops):
                self.assertTrue(isinstance(node.comparators[0], ast.Constant), (name, node.lineno))

    def test_texts_stand_at_a_file_s_top_alone(self):
        for name, parsed in trees():
            for node in ast.walk(parsed):
                if isinstance(node, ast.Expr) and node is not parsed.body[0]:
                    self.assertIsInstance(node.value, ast.Call, (name, node.lineno))

    def test_functions_and_classes_are_plain(self):
        for name, node in nodes((ast.FunctionDef, ast.ClassDef)):
            self.assertEqual(node.decorator_list, [], (name, node.lineno))
        for name, node in nodes(ast.arguments):
            self.assertEqual((node.vararg, node.kwarg, node.kwonlyargs, node.posonlyargs), (None, None, [], []))
        for name, node in nodes(ast.ClassDef):
            self.assertTrue(all(isinstance(part, ast.FunctionDef) for part in node.body), (name, node.name))

    def test_the_top_of_a_file(self):
        for name, parsed in trees():
            bound = bound_at_top(parsed)
            self.assertEqual(len(bound), len(set(bound)), name)
            for node in parsed.body[1:]:
                self.assertIsInstance(node, (ast.ImportFrom, ast.FunctionDef, ast.ClassDef, ast.Assign), name)
            for node in [part.value for part in parsed.body if isinstance(part, ast.Assign)]:
                inner = [part for part in ast.walk(node) if part is not node]
                self.assertFalse([part for part in inner if isinstance(part, (ast.List, ast.Dict, ast.Call))], name)


class NamesTest(unittest.TestCase):
    def test_names_are_plain_and_python_s_own_keep_their_meaning(self):
        for name, parsed in trees():
            classes = [node.name for node in parsed.body if isinstance(node, ast.ClassDef)]
            imports = [alias.name for node in parsed.body if isinstance(node, ast.ImportFrom) for alias in node.names]
            for node in ast.walk(parsed):
                if isinstance(node, ast.arg) or isinstance(node, ast.Name) and isinstance(node.ctx, ast.Store):
                    word = node.arg if isinstance(node, ast.arg) else node.id
                    self.assertRegex(word, r"^[A-Za-z][A-Za-z0-9_]*$")
                    self.assertFalse(hasattr(builtins, word) or word in UNUSED, (name, node.lineno, word))
                    self.assertNotIn(word, classes + imports, (name, node.lineno))
                elif isinstance(node, ast.Name) and hasattr(builtins, node.id):
                    self.assertIn(node.id, OWN_NAMES, (name, node.lineno))

    def test_attributes(self):
        methods = {part.name for name, node in nodes(ast.ClassDef) for part in node.body}
        values = {node.attr for name, node in nodes(ast.Attribute) if isinstance(node.ctx, ast.Store)}
        self.assertEqual(methods & values, set())
        self.assertEqual((methods - {"__init__"} | values) & TAKEN, set())
        for name, node in nodes(ast.Attribute):
            self.assertIn(node.attr, METHODS | methods | values, (name, node.lineno))
            self.assertNotIn(node.attr, UNUSED, (name, node.lineno))


if __name__ == "__main__":
    unittest.main()
