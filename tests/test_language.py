"""The rules of ../shared/LANGUAGE.md that can be seen in the package's files one by one."""

import ast
import builtins
import pathlib
import re
import unittest

PACKAGE = pathlib.Path(__file__).resolve().parent.parent / "tagmachine"
BUILTINS = set("""len range enumerate zip min max sum abs sorted reversed int str bool bytes list tuple dict set frozenset
    isinstance ord repr any all divmod Exception ValueError TypeError KeyError IndexError LookupError ZeroDivisionError
    ArithmeticError OverflowError RuntimeError NotImplementedError AttributeError StopIteration NotImplemented
    super property staticmethod classmethod object float""".split())
BARRED = ("type typing typing_extensions enum Enum IntEnum StrEnum Flag IntFlag Generic Protocol ABC ABCMeta namedtuple "
          "NamedTuple TypedDict TYPE_CHECKING abstractmethod").split()
BARRED_INSIDE = ("dataclass", "overload", "contextmanager")
UNUSED = set("""register mro elements open input version_info with_traceback add_note attrgetter breakpoint builtins
    compile copyright credits delattr dir eval exec exit gc getattr globals hasattr help id importlib license locals
    methodcaller os quit setattr type vars sys format format_map""".split())
BUILTIN_METHODS = set("""append clear copy count endswith extend find get index insert isalnum isalpha isdigit islower
    isspace isupper items join keys ljust lower lstrip partition pop remove replace reverse rfind rjust rpartition rsplit
    rstrip setdefault split splitlines startswith strip update upper values zfill bit_length sort add discard
    removeprefix __init__""".split())
INTERFACE = {"Machine": "step sweep said cells boxes ended rooms"}
BARRED_NODES = (ast.Global, ast.AsyncFunctionDef, ast.AsyncFor, ast.AsyncWith, ast.Await, ast.Import, ast.Div)


def files():
    return [path for path in sorted(PACKAGE.rglob("*")) if path.is_file() and path.suffix != ".pyc"]


def trees():
    return [(path, ast.parse(path.read_text())) for path in files()]


def bound_names(tree):
    """Tell the names that the code gives to anything."""
    for node in ast.walk(tree):
        if isinstance(node, ast.Name) and not isinstance(node.ctx, ast.Load):
            yield node.id
        elif isinstance(node, ast.arg):
            yield node.arg
        elif isinstance(node, (ast.FunctionDef, ast.ClassDef)):
            yield node.name
        elif isinstance(node, ast.alias):
            yield node.asname or node.name


class Language(unittest.TestCase):
    def test_files(self):
        self.assertTrue((PACKAGE / "__init__.py").is_file())
        for path in files():
            self.assertRegex(path.name, r"\A([a-z][a-z0-9_]*|__init__|__main__)\.py\Z")
            self.assertEqual(path.parent, PACKAGE)

    def test_characters_and_sizes(self):
        for path in files():
            text = path.read_text(encoding="utf-8")
            self.assertRegex(text, r"\A[ -~\n]*\Z", path)
            lines = text.splitlines()
            self.assertLessEqual(len(lines), 400, path)
            self.assertLessEqual(max(map(len, lines), default=0), 120, path)
            for node in ast.walk(ast.parse(text)):
                if isinstance(node, ast.FunctionDef):
                    self.assertLessEqual(node.end_lineno - node.lineno + 1, 40, (path, node.name))

    def test_barred_words(self):
        for path in files():
            words = re.findall(r"\w+", path.read_text())
            self.assertEqual([word for word in words if word in BARRED], [], path)
            self.assertEqual([word for word in words for part in BARRED_INSIDE if part in word], [], path)

    def test_imports(self):
        for path, tree in trees():
            for node in ast.walk(tree):
                self.assertNotIsInstance(node, BARRED_NODES, path)
                if isinstance(node, ast.ImportFrom):
                    self.assertIn(node, tree.body, path)
                    self.assertEqual(node.level, 0, path)
                    self.assertRegex(node.module, r"\Atagmachine\.[a-z_]+\Z")
                    source = ast.parse((PACKAGE / (node.module.partition(".")[2] + ".py")).read_text())
                    made = [name for part in source.body if not isinstance(part, ast.ImportFrom)
                            for name in bound_names(part)]
                    for alias in node.names:
                        self.assertIn(alias.name, made, path)

    def test_module_level(self):
        allowed = (ast.Expr, ast.ImportFrom, ast.FunctionDef, ast.ClassDef, ast.Assign)
        for path, tree in trees():
            self.assertIsNotNone(ast.get_docstring(tree), path)
            for node in tree.body:
                self.assertIsInstance(node, allowed, path)
                if isinstance(node, ast.Expr):
                    self.assertIsInstance(node.value, ast.Constant, path)

    def test_names(self):
        for path, tree in trees():
            for name in bound_names(tree):
                if name != "__init__":
                    self.assertRegex(name, r"\A[A-Za-z][A-Za-z0-9_]*\Z", path)
                self.assertNotIn(name, UNUSED, path)

    def test_builtins(self):
        for path, tree in trees():
            methods = [node for part in tree.body if isinstance(part, ast.ClassDef) for node in part.body]
            names = [node.name for node in methods if isinstance(node, ast.FunctionDef)]
            for name in bound_names(tree):
                self.assertTrue(name in names or not hasattr(builtins, name), (path, name))
            for node in ast.walk(tree):
                if isinstance(node, ast.Name) and hasattr(builtins, node.id):
                    self.assertIn(node.id, BUILTINS, path)

    def test_methods_and_attributes(self):
        methods, assigned, read = set(), set(), set()
        for path, tree in trees():
            for part in tree.body:
                if isinstance(part, ast.ClassDef):
                    methods.update(node.name for node in part.body if isinstance(node, ast.FunctionDef))
            for node in ast.walk(tree):
                if isinstance(node, ast.Attribute):
                    (read if isinstance(node.ctx, ast.Load) else assigned).add(node.attr)
        self.assertEqual(methods & assigned, set())
        self.assertEqual({name for name in read - methods - assigned if name not in BUILTIN_METHODS}, set())

    def test_methods_of_the_interface_stand_in_their_class(self):
        for path, tree in trees():
            for part in tree.body:
                if isinstance(part, ast.ClassDef) and part.name in INTERFACE:
                    made = {node.name for node in part.body if isinstance(node, ast.FunctionDef)}
                    self.assertLessEqual(set(INTERFACE[part.name].split()), made)

    def test_imports_go_one_way(self):
        imported = {path.stem: {node.module.partition(".")[2] for node in tree.body if isinstance(node, ast.ImportFrom)}
                    for path, tree in trees()}
        while imported:
            last = [name for name in imported if not imported[name] & set(imported)]
            self.assertTrue(last, imported)
            for name in last:
                del imported[name]

    def test_no_floats_and_no_percent_signs(self):
        for path, tree in trees():
            for node in ast.walk(tree):
                if isinstance(node, ast.Constant):
                    self.assertNotIsInstance(node.value, (float, complex), path)
                    self.assertFalse(isinstance(node.value, str) and "%" in node.value, path)


if __name__ == "__main__":
    unittest.main()
