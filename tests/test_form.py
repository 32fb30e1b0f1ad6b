"""The form of the package's files: those rules of LANGUAGE.md that a short look can tell."""

import ast
import builtins
import io
import pathlib
import re
import tokenize
import unittest

PACKAGE = pathlib.Path(__file__).resolve().parent.parent / "testedrows"
FILES = sorted(PACKAGE.glob("*.py"))
BUILTINS = set("""len range enumerate zip min max sum abs sorted reversed int str bool bytes list tuple dict set
frozenset isinstance ord repr any all divmod super property staticmethod classmethod Exception ValueError TypeError
KeyError IndexError LookupError ZeroDivisionError ArithmeticError OverflowError RuntimeError NotImplementedError
AttributeError StopIteration NotImplemented""".split())
METHODS = set("""append clear copy count endswith extend find get index insert isalnum isalpha isdigit islower isspace
isupper items join keys ljust lower lstrip partition pop remove replace reverse rfind rjust rpartition rsplit rstrip
setdefault split splitlines startswith strip update upper values zfill bit_length sort add discard""".split())
BARRED_WORDS = """type typing typing_extensions enum Enum IntEnum StrEnum Flag IntFlag Generic Protocol ABC ABCMeta
namedtuple NamedTuple TypedDict TYPE_CHECKING abstractmethod""".split()
BARRED_NAMES = set("""register mro elements open input version_info with_traceback add_note attrgetter breakpoint
builtins compile copyright credits delattr dir eval exec exit gc getattr globals hasattr help id importlib license
locals methodcaller os quit setattr type vars sys""".split())
SPECIAL = set("__init__ __eq__ __repr__ __str__ __len__ __enter__ __exit__ __call__ __iter__".split())
NO_NODES = (ast.Global, ast.AsyncFunctionDef, ast.Await, ast.Div, ast.Starred)


def trees():
    return [(path, ast.parse(path.read_text("utf-8"))) for path in FILES]


def nodes(tree, *kinds):
    return [node for node in ast.walk(tree) if isinstance(node, kinds)]


def bound_names(tree):
    names = [node.id for node in nodes(tree, ast.Name) if not isinstance(node.ctx, ast.Load)]
    names += [node.arg for node in nodes(tree, ast.arg)]
    names += [node.name for node in nodes(tree, ast.FunctionDef, ast.ClassDef)]
    names += [node.name for node in nodes(tree, ast.ExceptHandler) if node.name]
    return names


def defined_at_top(tree):
    names = []
    for node in tree.body:
        if isinstance(node, (ast.FunctionDef, ast.ClassDef)):
            names.append(node.name)
        elif isinstance(node, ast.ImportFrom):
            names += [name.asname or name.name for name in node.names]
        elif isinstance(node, ast.Assign):
            names += [target.id for target in node.targets]
    return names


class TestForm(unittest.TestCase):
    def test_files(self):
        names = [path.name for path in PACKAGE.iterdir() if path.name != "__pycache__"]
        self.assertIn("__init__.py", names)
        for name in names:
            self.assertRegex(name, r"^[a-z][a-z0-9_]*\.py$|^__init__\.py$")

    def test_sizes_and_signs(self):
        for path in FILES:
            text = path.read_text("utf-8")
            self.assertRegex(text, r"\A[ -~\n]*\Z", path)
            rows = text.split("\n")
            self.assertLessEqual(len(rows), 401, path)
            self.assertLessEqual(max(map(len, rows)), 120, path)

    def test_functions_are_short(self):
        for path, tree in trees():
            for node in nodes(tree, ast.FunctionDef):
                self.assertLessEqual(node.end_lineno - node.lineno + 1, 40, (path, node.name))

    def test_barred_words(self):
        for path in FILES:
            text = path.read_text("utf-8")
            for word in BARRED_WORDS:
                self.assertIsNone(re.search(rf"\b{word}\b", text), (path, word))
            for word in ("dataclass", "overload", "contextmanager"):
                self.assertNotIn(word, text, path)

    def test_strings(self):
        for path in FILES:
            for token in tokenize.generate_tokens(io.StringIO(path.read_text("utf-8")).readline):
                if token.type == tokenize.STRING:
                    self.assertNotIn("%", token.string, path)
                    self.assertIsNone(re.search(r"\\[^nt\\'\"]", token.string), path)

    def test_imports(self):
        for path, tree in trees():
            self.assertEqual(nodes(tree, ast.Import), [], path)
            for node in nodes(tree, ast.ImportFrom):
                self.assertIn(node, tree.body, path)
                self.assertEqual(node.level, 0, path)
                self.assertTrue(node.module.startswith("testedrows."), path)
                home = ast.parse((PACKAGE / (node.module.split(".")[1] + ".py")).read_text("utf-8"))
                own = [top.name for top in home.body if isinstance(top, (ast.FunctionDef, ast.ClassDef))]
                own += [top.targets[0].id for top in home.body if isinstance(top, ast.Assign)]
                for name in node.names:
                    self.assertIn(name.name, own, path)

    def test_no_imports_in_a_ring(self):
        above = {path.stem: [node.module.split(".")[1] for node in nodes(tree, ast.ImportFrom)]
                 for path, tree in trees()}

        def reached(name, seen):
            for other in above[name]:
                if other not in seen:
                    seen.add(other)
                    reached(other, seen)
            return seen

        for name in above:
            self.assertNotIn(name, reached(name, set()))

    def test_module_level(self):
        for path, tree in trees():
            for node in tree.body:
                self.assertIsInstance(node, (ast.Expr, ast.ImportFrom, ast.FunctionDef, ast.ClassDef, ast.Assign), path)
                if isinstance(node, ast.Expr):
                    self.assertIsInstance(node.value, ast.Constant, path)
                if isinstance(node, ast.Assign):
                    self.assertEqual(nodes(node, ast.Call, ast.ListComp, ast.DictComp), [], path)
            names = defined_at_top(tree)
            self.assertEqual(len(names), len(set(names)), path)

    def test_names(self):
        for path, tree in trees():
            named = bound_names(tree) + [node.attr for node in nodes(tree, ast.Attribute)]
            for name in named:
                if name not in SPECIAL:
                    self.assertRegex(name, r"^[A-Za-z][A-Za-z0-9_]*$", path)
                self.assertNotIn(name, BARRED_NAMES, path)
            for name in bound_names(tree):
                self.assertTrue(name in SPECIAL or name not in vars(builtins), (path, name))

    def test_locals_hide_nothing(self):
        for path, tree in trees():
            tops = [top for top in tree.body if isinstance(top, (ast.ImportFrom, ast.ClassDef))]
            taken = [name for name in defined_at_top(ast.Module(body=tops, type_ignores=[]))]
            for function in nodes(tree, ast.FunctionDef):
                inside = [node.id for node in nodes(function, ast.Name) if isinstance(node.ctx, ast.Store)]
                for name in inside + [node.arg for node in nodes(function, ast.arg)]:
                    self.assertNotIn(name, taken, path)

    def test_builtins_and_methods(self):
        methods = METHODS | {node.name for _, tree in trees() for node in nodes(tree, ast.FunctionDef)}
        for path, tree in trees():
            for node in nodes(tree, ast.Name):
                if node.id in vars(builtins):
                    self.assertIn(node.id, BUILTINS, path)
            for node in nodes(tree, ast.Call):
                if isinstance(node.func, ast.Attribute):
                    self.assertIn(node.func.attr, methods, path)

    def test_statements(self):
        for path, tree in trees():
            self.assertEqual(nodes(tree, *NO_NODES), [], path)
            for node in nodes(tree, ast.Constant):
                self.assertNotIsInstance(node.value, (float, complex), path)
            for node in nodes(tree, ast.Compare):
                if any(isinstance(sign, (ast.Is, ast.IsNot)) for sign in node.ops):
                    self.assertIsInstance(node.comparators[0], ast.Constant, path)
            for node in nodes(tree, ast.Raise):
                self.assertTrue(node.exc is None or isinstance(node.exc, ast.Call), path)
            for node in nodes(tree, ast.FunctionDef, ast.ClassDef):
                self.assertEqual(node.decorator_list, [], path)


if __name__ == "__main__":
    unittest.main()
