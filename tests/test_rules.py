"""The rules of the language subset that can be seen by a look at each file of the package."""

import ast
import builtins
import pathlib
import re
import unittest

PACKAGE = pathlib.Path(__file__).resolve().parent.parent / "likeshards"
FILES = sorted(PACKAGE.glob("*.py"))
BARRED_WORDS = (
    "type", "typing", "typing_extensions", "enum", "Enum", "IntEnum", "StrEnum", "Flag", "IntFlag", "Generic",
    "Protocol", "ABC", "ABCMeta", "namedtuple", "NamedTuple", "TypedDict", "TYPE_CHECKING", "abstractmethod",
)
BARRED_PARTS = ("dataclass", "overload", "contextmanager")
BUILTINS = set(
    "len range enumerate zip min max sum abs sorted reversed int str bool list tuple dict set frozenset "
    "isinstance ord repr any all divmod Exception ValueError TypeError KeyError IndexError LookupError "
    "ZeroDivisionError ArithmeticError OverflowError RuntimeError NotImplementedError AttributeError "
    "StopIteration NotImplemented super property staticmethod classmethod".split()
)
PLAIN_METHODS = set(
    "append clear copy count endswith extend find get index insert isalnum isalpha isdigit islower isspace "
    "isupper items join keys ljust lower lstrip partition pop remove replace reverse rfind rjust rpartition "
    "rsplit rstrip setdefault split splitlines startswith strip update upper values zfill bit_length "
    "title capitalize swapcase casefold center expandtabs removeprefix removesuffix rindex isascii isdecimal "
    "isnumeric istitle isidentifier isprintable translate sort add discard __init__".split()
)
NOT_ALLOWED = (
    ast.Global, ast.AsyncFunctionDef, ast.AsyncFor, ast.AsyncWith, ast.Await, ast.Div, ast.MatMult,
)


def all_nodes(path, kinds):
    return [node for node in ast.walk(ast.parse(path.read_text())) if isinstance(node, kinds)]


def bound_names(tree):
    """Every name that the file itself gives a meaning, wherever it does."""
    names = set()
    for node in ast.walk(tree):
        if isinstance(node, (ast.FunctionDef, ast.ClassDef)):
            names.add(node.name)
        elif isinstance(node, ast.arg):
            names.add(node.arg)
        elif isinstance(node, ast.alias):
            names.add(node.asname or node.name)
        elif isinstance(node, ast.Name) and not isinstance(node.ctx, ast.Load):
            names.add(node.id)
        elif isinstance(node, ast.ExceptHandler) and node.name:
            names.add(node.name)
    return names


class TestRules(unittest.TestCase):
    def each(self):
        self.assertTrue(FILES)
        for path in FILES:
            with self.subTest(path.name):
                yield path, path.read_text()

    def test_nothing_else_in_the_folder(self):
        others = [path.name for path in PACKAGE.iterdir() if path not in FILES]
        self.assertEqual([], [name for name in others if name != "__pycache__"])
        self.assertIn("__init__.py", [path.name for path in FILES])

    def test_file_names(self):
        for path, text in self.each():
            self.assertRegex(path.name, r"^(__init__|[a-z][a-z0-9_]*)\.py$")

    def test_signs_and_sizes(self):
        for path, text in self.each():
            self.assertEqual([], re.findall(r"[^ -~\n]", text))
            self.assertLessEqual(text.count("\n"), 400)
            self.assertLessEqual(max(len(line) for line in text.split("\n")), 120)

    def test_functions_are_short(self):
        for path, text in self.each():
            for node in all_nodes(path, ast.FunctionDef):
                self.assertLessEqual(node.end_lineno - node.lineno + 1, 40, node.name)
                self.assertEqual([], [d for d in node.decorator_list if not isinstance(d, (ast.Name, ast.Attribute))])

    def test_barred_words(self):
        for path, text in self.each():
            words = re.findall(r"[A-Za-z_][A-Za-z0-9_]*", text)
            self.assertEqual([], [word for word in words if word in BARRED_WORDS])
            self.assertEqual([], [part for part in BARRED_PARTS if part in text])

    def test_imports(self):
        for path, text in self.each():
            self.assertEqual([], all_nodes(path, ast.Import))
            for node in all_nodes(path, ast.ImportFrom):
                self.assertEqual(0, node.level)
                self.assertRegex(node.module, r"^likeshards\.[a-z]+$")
                defined = bound_names(ast.parse((PACKAGE / (node.module.partition(".")[2] + ".py")).read_text()))
                for alias in node.names:
                    self.assertIn(alias.name, defined)
                    self.assertIn(alias.name, re.sub(r"from .* import .*", "", text))

    def test_module_level(self):
        for path, text in self.each():
            for node in ast.parse(text).body:
                docstring = isinstance(node, ast.Expr) and isinstance(node.value, ast.Constant)
                wanted = (ast.ImportFrom, ast.FunctionDef, ast.ClassDef, ast.Assign)
                self.assertTrue(docstring or isinstance(node, wanted), ast.dump(node))

    def test_names(self):
        for path, text in self.each():
            tree = ast.parse(text)
            own = bound_names(tree)
            self.assertEqual(set(), own & set(dir(builtins)))
            self.assertEqual([], [name for name in own if name.startswith("_") and name != "__init__"])
            for node in all_nodes(path, ast.Name):
                self.assertIn(node.id, own | BUILTINS)

    def test_no_local_name_hides_an_import_or_a_class(self):
        for path, text in self.each():
            tree = ast.parse(text)
            outer = {alias.asname or alias.name for node in all_nodes(path, ast.ImportFrom) for alias in node.names}
            outer |= {node.name for node in tree.body if isinstance(node, ast.ClassDef)}
            for node in all_nodes(path, (ast.FunctionDef, ast.Lambda)):
                inner = bound_names(node) - {getattr(node, "name", None)}
                self.assertEqual(set(), inner & outer)

    def test_names_are_bound_once(self):
        for path, text in self.each():
            names = []
            for node in ast.parse(text).body:
                if isinstance(node, ast.ImportFrom):
                    names += [alias.asname or alias.name for alias in node.names]
                elif isinstance(node, (ast.FunctionDef, ast.ClassDef)):
                    names.append(node.name)
                elif isinstance(node, ast.Assign):
                    names += [target.id for target in node.targets]
            self.assertEqual(sorted(set(names)), sorted(names))

    def test_powers(self):
        for path, text in self.each():
            for node in all_nodes(path, (ast.BinOp, ast.AugAssign)):
                if isinstance(node.op, ast.Pow):
                    self.assertIsInstance(node.right, ast.Constant)

    def test_methods(self):
        own = set().union(*(bound_names(ast.parse(path.read_text())) for path in FILES))
        for path, text in self.each():
            for node in all_nodes(path, ast.Call):
                if isinstance(node.func, ast.Attribute):
                    self.assertIn(node.func.attr, own | PLAIN_METHODS)

    def test_statements_and_values(self):
        for path, text in self.each():
            self.assertEqual([], all_nodes(path, NOT_ALLOWED))
            for node in all_nodes(path, ast.Constant):
                self.assertNotIsInstance(node.value, (float, complex))
                if isinstance(node.value, str):
                    self.assertNotIn(chr(37), node.value)
            for node in all_nodes(path, ast.Compare):
                for sign, right in zip(node.ops, node.comparators):
                    if isinstance(sign, (ast.Is, ast.IsNot)):
                        self.assertIsInstance(right, ast.Constant)

    def test_no_file_imports_itself_by_others(self):
        reached = {path.stem: {n.module.partition(".")[2] for n in all_nodes(path, ast.ImportFrom)} for path in FILES}
        while True:
            wider = {name: seen.union(*(reached[other] for other in seen)) for name, seen in reached.items()}
            if wider == reached:
                break
            reached = wider
        self.assertEqual([], [name for name, seen in reached.items() if name in seen])


if __name__ == "__main__":
    unittest.main()
