"""The parts of the language's rules that can be seen in the text of the package."""

import ast
import builtins
import pathlib
import unittest

FOLDER = pathlib.Path(__file__).resolve().parent.parent / "someoneout"
BUILTINS = set("""len range enumerate zip min max sum abs sorted reversed int str bool list tuple dict set isinstance
    ord repr any all divmod super ValueError Exception KeyError NotImplemented""".split())
METHODS = set("""append clear copy count endswith extend find get index insert isalnum isalpha isdigit islower isspace
    isupper items join keys ljust lower lstrip partition pop remove replace reverse rfind rjust rpartition rsplit rstrip
    setdefault split splitlines startswith strip update upper values zfill bit_length""".split())
LIBRARY = {"math": {"gcd", "lcm", "isqrt", "comb", "perm", "factorial"}}
UNUSED = set("register mro elements open input law version_info with_traceback add_note".split())
BARRED_WORDS = set("""type typing typing_extensions enum Enum IntEnum StrEnum Flag IntFlag Generic Protocol ABC ABCMeta
    namedtuple NamedTuple TypedDict TYPE_CHECKING abstractmethod""".split())
BARRED_NODES = (ast.Global, ast.AsyncFunctionDef, ast.AsyncFor, ast.AsyncWith, ast.Await, ast.GeneratorExp, ast.Import,
                ast.Div, ast.Lambda, ast.NamedExpr, ast.Yield, ast.YieldFrom, ast.TryStar)
SPECIAL = {"__init__", "__add__", "__len__", "__eq__"}


def trees():
    for path in sorted(FOLDER.glob("*.py")):
        text = path.read_text(encoding="utf-8")
        yield path, text, ast.parse(text)


def docstrings(tree):
    for node in ast.walk(tree):
        if isinstance(node, (ast.Module, ast.ClassDef, ast.FunctionDef)) and ast.get_docstring(node) is not None:
            yield id(node.body[0].value)


def defined(tree):
    names = set()
    for node in tree.body:
        if isinstance(node, (ast.FunctionDef, ast.ClassDef)):
            names.add(node.name)
        elif isinstance(node, ast.Assign):
            names.update(target.id for target in node.targets)
    return names


class Language(unittest.TestCase):
    def test_files(self):
        for path in FOLDER.iterdir():
            self.assertTrue(path.suffix == ".py" or path.name == "__pycache__", path)
        for path, text, _ in trees():
            lines = text.split("\n")
            self.assertLess(len(lines), 400, path)
            self.assertLessEqual(max(len(line) for line in lines), 120, path)
            self.assertTrue(all(32 <= ord(sign) <= 126 or sign == "\n" for sign in text), path)
            self.assertRegex(path.stem, "^[a-z_]+$")

    def test_functions(self):
        for path, _, tree in trees():
            for node in ast.walk(tree):
                if isinstance(node, ast.FunctionDef):
                    self.assertLessEqual(node.end_lineno - node.lineno + 1, 40, (path, node.name))
                    self.assertEqual(node.decorator_list, [])
                    if node.name.startswith("__"):
                        self.assertIn(node.name, SPECIAL)

    def test_statements_and_values(self):
        for path, _, tree in trees():
            for node in ast.walk(tree):
                self.assertNotIsInstance(node, BARRED_NODES, path)
                if isinstance(node, ast.Constant):
                    self.assertNotIsInstance(node.value, (float, complex, bytes), path)
                    self.assertNotIn(chr(37), str(node.value))
                if isinstance(node, ast.Starred):
                    self.assertIsInstance(node.value, ast.Name, path)
            for node in tree.body:
                self.assertIsInstance(node, (ast.Expr, ast.ImportFrom, ast.FunctionDef, ast.ClassDef, ast.Assign))

    def test_imports(self):
        names = {path.stem: defined(tree) for path, _, tree in trees()}
        needs = {}
        for path, _, tree in trees():
            needs[path.stem] = set()
            for node in ast.walk(tree):
                if isinstance(node, ast.ImportFrom):
                    self.assertIn(node, tree.body)
                    self.assertEqual(node.level, 0)
                    imported = {alias.name for alias in node.names}
                    self.assertTrue(all(alias.asname is None for alias in node.names))
                    if node.module in LIBRARY:
                        self.assertLessEqual(imported, LIBRARY[node.module])
                        continue
                    package, _, file = node.module.partition(".")
                    self.assertEqual(package, "someoneout")
                    self.assertLessEqual(imported, names[file], path)
                    needs[path.stem].add(file)
        while needs:
            ready = [file for file in needs if not needs[file] & set(needs)]
            self.assertTrue(ready, needs)
            for file in ready:
                del needs[file]

    def test_names(self):
        known = set(dir(builtins))
        for path, _, tree in trees():
            imported = {alias.name for node in tree.body if isinstance(node, ast.ImportFrom) for alias in node.names}
            bound = imported | {node.name for node in tree.body if isinstance(node, ast.ClassDef)}
            self.assertFalse(imported & defined(tree), path)
            for node in ast.walk(tree):
                if isinstance(node, ast.Name) and isinstance(node.ctx, ast.Load) and node.id in known:
                    self.assertIn(node.id, BUILTINS, path)
                given = []
                if isinstance(node, ast.Name) and isinstance(node.ctx, ast.Store):
                    given.append(node.id)
                if isinstance(node, ast.arg):
                    given.append(node.arg)
                for name in given:
                    self.assertNotIn(name, bound, path)
                if isinstance(node, (ast.FunctionDef, ast.ClassDef)):
                    given.append(node.name)
                if isinstance(node, ast.Attribute):
                    self.assertNotIn(node.attr, UNUSED)
                for name in given:
                    self.assertFalse(name in known or name in UNUSED, (path, name))

    def test_methods(self):
        own = {node.name for _, _, tree in trees() for outer in ast.walk(tree) if isinstance(outer, ast.ClassDef)
               for node in outer.body if isinstance(node, ast.FunctionDef)}
        for path, _, tree in trees():
            for node in ast.walk(tree):
                if isinstance(node, ast.Call) and isinstance(node.func, ast.Attribute):
                    self.assertIn(node.func.attr, METHODS | own, path)

    def test_iterated_at_once(self):
        # A range or a view is gone through where it stands, and passed to builtins that do so only.
        takers = {"list", "tuple", "dict", "sorted", "sum", "any", "all", "enumerate", "zip", "min", "max"}
        for path, _, tree in trees():
            fine = set()
            for node in ast.walk(tree):
                if isinstance(node, (ast.For, ast.comprehension)):
                    fine.add(id(node.iter))
                if isinstance(node, ast.Call) and isinstance(node.func, ast.Name) and node.func.id in takers:
                    fine.update(id(argument) for argument in node.args)
                if isinstance(node, ast.Call) and isinstance(node.func, ast.Name) and node.func.id == "reversed":
                    self.assertNotIsInstance(node.args[0], ast.Call, path)
                if isinstance(node, ast.Assign) and ast.unparse(node.value).startswith("range("):
                    fine.add(id(node.value))
            for node in ast.walk(tree):
                if isinstance(node, ast.Call):
                    called = node.func.id if isinstance(node.func, ast.Name) else node.func.attr
                    if called in ("range", "zip", "enumerate", "reversed", "items", "keys", "values"):
                        self.assertIn(id(node), fine, (path, node.lineno))

    def test_words(self):
        for path, _, tree in trees():
            texts = set(docstrings(tree))
            for node in ast.walk(tree):
                if isinstance(node, ast.Constant) and isinstance(node.value, str) and id(node) not in texts:
                    self.assertFalse(set(node.value.split()) & BARRED_WORDS, path)
                if isinstance(node, ast.Name):
                    self.assertNotIn(node.id, BARRED_WORDS, path)

    def test_no_name_is_not_used(self):
        for path, _, tree in trees():
            used = {node.id for node in ast.walk(tree) if isinstance(node, ast.Name) and isinstance(node.ctx, ast.Load)}
            for node in tree.body:
                if isinstance(node, ast.ImportFrom):
                    self.assertLessEqual({alias.name for alias in node.names}, used, path)
