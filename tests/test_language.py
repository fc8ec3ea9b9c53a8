"""The package keeps to its part of Python: what can be seen in the files, rule by rule."""

import ast
import builtins
import pathlib
import re
import unittest

PACKAGE = pathlib.Path(__file__).resolve().parent.parent / "throughwindows"
FILES = sorted(PACKAGE.glob("*.py"))

NODES = """Module Expr Assign AugAssign FunctionDef ClassDef ImportFrom alias arguments arg Return If While For Break
Continue Pass Raise Try ExceptHandler Call Name Attribute Subscript Slice Constant List Tuple Dict ListComp
comprehension BinOp UnaryOp BoolOp Compare IfExp Lambda keyword JoinedStr FormattedValue Load Store Add Sub Mult
FloorDiv Mod Pow BitAnd BitOr BitXor LShift RShift Invert Not UAdd USub And Or Eq NotEq Lt LtE Gt GtE Is IsNot In
NotIn""".split()

OWN_NAMES = """len range enumerate zip min max sum abs sorted reversed int str bool list tuple dict set frozenset
isinstance ord repr any all divmod Exception ValueError TypeError KeyError IndexError LookupError ZeroDivisionError
ArithmeticError OverflowError RuntimeError NotImplementedError AttributeError StopIteration""".split()

METHODS = """append clear copy count endswith extend find get index insert isalnum isalpha isdigit islower isspace
isupper items join keys ljust lower lstrip partition pop remove replace reverse rfind rjust rpartition rsplit rstrip
setdefault split splitlines startswith strip update upper values zfill bit_length""".split()

UNUSED_WORDS = """type typing typing_extensions enum Enum IntEnum StrEnum Flag IntFlag Generic Protocol ABC ABCMeta
namedtuple NamedTuple TypedDict TYPE_CHECKING abstractmethod""".split()

UNUSED_NAMES = """register mro elements open input version_info with_traceback add_note format format_map attrgetter
breakpoint compile delattr dir eval exec exit gc getattr globals hasattr help id importlib locals methodcaller os quit
setattr super vars sys""".split()

WALKERS = "list tuple dict sorted sum any all enumerate zip".split()


def tree_of(path):
    return ast.parse(path.read_text(encoding="utf-8"))


def nodes_of(path, *kinds):
    return [node for node in ast.walk(tree_of(path)) if isinstance(node, kinds)]


def bound_names(path):
    """All names that parameters and assignments bind."""
    stored = [node.id for node in nodes_of(path, ast.Name) if isinstance(node.ctx, ast.Store)]
    return stored + [node.arg for node in nodes_of(path, ast.arg)]


def imported_names(path):
    return [alias.name for node in nodes_of(path, ast.ImportFrom) for alias in node.names]


def top_names(path):
    names = imported_names(path)
    for node in tree_of(path).body:
        if isinstance(node, (ast.FunctionDef, ast.ClassDef)):
            names.append(node.name)
        elif isinstance(node, ast.Assign):
            names.append(node.targets[0].id)
    return names


class Language(unittest.TestCase):
    def test_files(self):
        names = [path.name for path in PACKAGE.iterdir() if path.name != "__pycache__"]
        self.assertIn("__init__.py", names)
        self.assertIn("pixels.py", names)
        for name in names:
            self.assertRegex(name, r"\A(__init__|[a-z][a-z0-9_]*)\.py\Z")
            self.assertFalse(name.startswith("test"))
            self.assertFalse(name != "__init__.py" and hasattr(builtins, name[:-3]))

    def test_signs_and_sizes(self):
        for path in FILES:
            text = path.read_bytes().decode("ascii")
            self.assertRegex(text, r"\A[ -~\n]*\Z")
            rows = text.split("\n")
            self.assertLessEqual(len(rows), 399)
            self.assertLessEqual(max(len(line) for line in rows), 120)
            for node in nodes_of(path, ast.FunctionDef):
                self.assertLessEqual(node.end_lineno - node.lineno + 1, 40)

    def test_words(self):
        for path in FILES:
            text = path.read_text()
            for word in UNUSED_WORDS:
                self.assertIsNone(re.search(rf"\b{word}\b", text), (path.name, word))
            for word in ["dataclass", "overload", "contextmanager"]:
                self.assertNotIn(word, text)
            for node in nodes_of(path, ast.Constant):
                self.assertIn(type(node.value), (int, str, bool, type(None)))
                if isinstance(node.value, str):
                    self.assertNotIn("%", node.value)

    def test_statements_and_expressions(self):
        for path in FILES:
            for node in ast.walk(tree_of(path)):
                self.assertIn(type(node).__name__, NODES, (path.name, getattr(node, "lineno", 0)))
            for node in nodes_of(path, ast.Assign):
                self.assertEqual(len(node.targets), 1)
                self.assertNotIsInstance(node.targets[0], (ast.Tuple, ast.List))
            for node in nodes_of(path, ast.ListComp):
                self.assertEqual(len(node.generators), 1)
                self.assertLessEqual(len(node.generators[0].ifs), 1)
            for node in nodes_of(path, ast.For, ast.While, ast.Try):
                self.assertEqual(getattr(node, "finalbody", []), [])
                if not isinstance(node, ast.Try):
                    self.assertEqual(node.orelse, [])

    def test_is_beside_none_true_and_false_alone(self):
        for path in FILES:
            for node in nodes_of(path, ast.Compare):
                for sign, right in zip(node.ops, node.comparators):
                    if isinstance(sign, (ast.Is, ast.IsNot)):
                        self.assertIn(ast.unparse(right), ("None", "True", "False"))

    def test_functions_and_classes(self):
        for path in FILES:
            for node in nodes_of(path, ast.FunctionDef):
                given = node.args
                self.assertEqual(node.decorator_list + given.posonlyargs + given.kwonlyargs, [])
                self.assertIsNone(given.vararg or given.kwarg)
            for node in nodes_of(path, ast.ClassDef):
                self.assertEqual(node.decorator_list + node.keywords, [])
                self.assertLessEqual(len(node.bases), 1)
                for inner in node.body[1:]:
                    self.assertIsInstance(inner, ast.FunctionDef)

    def test_names(self):
        for path in FILES:
            for name in bound_names(path):
                self.assertRegex(name, r"\A[A-Za-z][A-Za-z0-9_]*\Z")
                self.assertFalse(hasattr(builtins, name), (path.name, name))
                self.assertNotIn(name, imported_names(path))
                self.assertNotIn(name, [node.name for node in nodes_of(path, ast.ClassDef)])
            for node in nodes_of(path, ast.Name):
                if hasattr(builtins, node.id):
                    self.assertIn(node.id, OWN_NAMES)
                self.assertNotIn(node.id, UNUSED_NAMES)
            for node in nodes_of(path, ast.Attribute):
                self.assertNotIn(node.attr, UNUSED_NAMES)
            self.assertEqual(len(top_names(path)), len(set(top_names(path))))

    def test_methods(self):
        for path in FILES:
            for node in nodes_of(path, ast.Call):
                if isinstance(node.func, ast.Attribute):
                    self.assertIn(node.func.attr, METHODS)

    def test_what_stands_at_a_files_top(self):
        for path in FILES:
            body = tree_of(path).body
            self.assertIsInstance(ast.literal_eval(body[0].value), str)
            for node in body[1:]:
                self.assertIsInstance(node, (ast.ImportFrom, ast.FunctionDef, ast.ClassDef, ast.Assign))
                if isinstance(node, ast.Assign):
                    inner = [part for part in ast.walk(node.value) if part != node.value]
                    self.assertFalse([part for part in inner if isinstance(part, (ast.List, ast.Dict, ast.Call))])

    def test_walked_at_once(self):
        for path in FILES:
            allowed = [node.iter for node in nodes_of(path, ast.For, ast.comprehension)]
            for node in nodes_of(path, ast.Call):
                if ast.unparse(node.func) in WALKERS and node.args:
                    allowed.append(node.args[0])
            places = [(node.lineno, node.col_offset) for node in allowed]
            for node in nodes_of(path, ast.Call):
                if ast.unparse(node.func) in ("range", "zip", "enumerate", "reversed"):
                    self.assertIn((node.lineno, node.col_offset), places, path.name)

    def test_sets_stand_within_sorted_or_len(self):
        for path in FILES:
            within = [node.args[0] for node in nodes_of(path, ast.Call)
                      if ast.unparse(node.func) in ("sorted", "len") and node.args and not node.keywords]
            places = [(node.lineno, node.col_offset) for node in within]
            for node in nodes_of(path, ast.Name):
                if node.id in ("set", "frozenset"):
                    self.assertIn((node.lineno, node.col_offset), places, path.name)

    def test_exponents_are_written(self):
        for path in FILES:
            for node in nodes_of(path, ast.BinOp):
                if isinstance(node.op, ast.Pow):
                    self.assertIn(ast.literal_eval(node.right), range(65))

    def test_no_name_is_a_method_here_and_a_value_there(self):
        methods = [inner.name for path in FILES for node in nodes_of(path, ast.ClassDef) for inner in node.body[1:]]
        values = [node.attr for path in FILES for node in nodes_of(path, ast.Attribute)
                  if isinstance(node.ctx, ast.Store)]
        for name in values:
            self.assertNotIn(name, methods)
            for kind in (str, int, list, dict, set, bytes, tuple):
                self.assertFalse(hasattr(kind, name), name)

    def test_imports(self):
        for path in FILES:
            at_top = [node.lineno for node in tree_of(path).body if isinstance(node, ast.ImportFrom)]
            for node in nodes_of(path, ast.ImportFrom):
                self.assertIn(node.lineno, at_top)
                self.assertEqual(node.level, 0)
                source = PACKAGE / (node.module.split(".")[1] + ".py")
                self.assertEqual(node.module, f"throughwindows.{source.stem}")
                for alias in node.names:
                    self.assertIsNone(alias.asname)
                    defined = [name for name in top_names(source) if name not in imported_names(source)]
                    self.assertIn(alias.name, defined)

    def test_no_two_files_draw_from_one_another(self):
        draws = {path.stem: [node.module.split(".")[1] for node in nodes_of(path, ast.ImportFrom)] for path in FILES}
        while draws:
            free = [name for name in draws if not draws[name]]
            self.assertTrue(free, f"files that draw from one another: {sorted(draws)}")
            draws = {name: [other for other in draws[name] if other not in free]
                     for name in draws if name not in free}

    def test_the_interface_stands_in_its_file_alone(self):
        for path in FILES:
            self.assertEqual("answers" in top_names(path), path.name == "pixels.py")


if __name__ == "__main__":
    unittest.main()
