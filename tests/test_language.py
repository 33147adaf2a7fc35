"""The files of the package keep to the language of the project, as far as a short test can tell."""

import ast
import builtins
import pathlib
import re
import unittest

PACKAGE = pathlib.Path(__file__).resolve().parent.parent / "surerwalks"
LIBRARY = {"math": {"gcd", "lcm", "isqrt", "comb", "perm", "factorial"}}
BUILTINS = set("""len range enumerate zip min max sum abs sorted reversed int str bool list tuple dict set isinstance ord
repr any all divmod pow Exception ValueError TypeError KeyError IndexError LookupError ZeroDivisionError ArithmeticError
OverflowError RuntimeError NotImplementedError AttributeError StopIteration NotImplemented property staticmethod classmethod
super""".split())
METHODS = set("""append clear copy count endswith extend find get index insert isalnum isalpha isdigit islower isspace
isupper items join keys ljust lower lstrip partition pop remove replace reverse rfind rjust rpartition rsplit rstrip
setdefault split splitlines startswith strip update upper values zfill bit_length""".split())
BARRED = set("""type typing typing_extensions enum Enum IntEnum StrEnum Flag IntFlag Generic Protocol ABC ABCMeta namedtuple
NamedTuple TypedDict TYPE_CHECKING abstractmethod dataclass overload contextmanager register mro elements open input law
version_info eval exec globals locals vars id sys os""".split())
STATEMENTS = (
    ast.FunctionDef, ast.ClassDef, ast.Return, ast.Delete, ast.Assign, ast.For, ast.While, ast.If, ast.With, ast.Match,
    ast.Raise, ast.Try, ast.Assert, ast.ImportFrom, ast.Nonlocal, ast.Expr, ast.Pass, ast.Break, ast.Continue, ast.AugAssign,
)


def files():
    return sorted(PACKAGE.rglob("*.py"))


def trees():
    return [(path, ast.parse(path.read_text(encoding="utf-8"))) for path in files()]


def nodes(kind):
    """All nodes of a kind, each with where it stands."""
    return [
        (f"{path.name}:{getattr(node, 'lineno', 0)}", node)
        for path, tree in trees() for node in ast.walk(tree) if isinstance(node, kind)
    ]


def docstrings(tree):
    found = []
    for node in ast.walk(tree):
        if isinstance(node, (ast.Module, ast.ClassDef, ast.FunctionDef)) and ast.get_docstring(node) is not None:
            found.append(node.body[0].value)
    return found


class TestFiles(unittest.TestCase):
    def test_only_python(self):
        self.assertTrue(files())
        for path in PACKAGE.rglob("*"):
            if "__pycache__" not in path.parts:
                self.assertTrue(path.is_dir() or path.suffix == ".py", path)
                self.assertRegex(path.stem, "^[a-z_][a-z0-9_]*$")
                self.assertFalse(path.name.startswith("test"), path)
        for folder in [PACKAGE] + [path for path in PACKAGE.rglob("*") if path.is_dir()]:
            if "__pycache__" not in folder.parts:
                self.assertTrue((folder / "__init__.py").exists(), folder)
        self.assertLessEqual(len(files()), 100)

    def test_sizes_and_characters(self):
        for path in files():
            data = path.read_bytes()
            self.assertTrue(all(sign == 10 or 32 <= sign <= 126 for sign in data), path)
            lines = data.decode("ascii").split("\n")
            self.assertLessEqual(len(lines) - 1, 399, path)
            self.assertTrue(all(len(line) <= 120 for line in lines), path)
        for place, node in nodes(ast.FunctionDef):
            self.assertLessEqual(node.end_lineno - node.lineno + 1, 40, place)

    def test_imports(self):
        reached = {}
        for path, tree in trees():
            reached[path.stem] = set()
            for node in tree.body:
                if isinstance(node, ast.ImportFrom):
                    self.assertEqual(node.level, 0, path)
                    self.assertTrue(all(alias.asname is None for alias in node.names), path)
                    names = {alias.name for alias in node.names}
                    if node.module in LIBRARY:
                        self.assertLessEqual(names, LIBRARY[node.module])
                        continue
                    self.assertRegex(node.module, "^surerwalks[.][a-z_]+$")
                    reached[path.stem].add(node.module.split(".")[1])
                    self.assertLessEqual(names, self.bound(PACKAGE / (node.module.split(".")[1] + ".py")), path)
        for _ in reached:
            for stem in reached:
                reached[stem] = reached[stem].union(*[reached[other] for other in reached[stem]])
        for stem, others in reached.items():
            self.assertNotIn(stem, others)

    def bound(self, path):
        """The names that a file itself defines."""
        found = set()
        for node in ast.parse(path.read_text()).body:
            if isinstance(node, (ast.FunctionDef, ast.ClassDef)):
                found.add(node.name)
            elif isinstance(node, ast.Assign):
                found.add(node.targets[0].id)
        return found


class TestStatements(unittest.TestCase):
    def test_kinds_of_statements(self):
        for place, node in nodes(ast.stmt):
            self.assertIsInstance(node, STATEMENTS, place)
        for path, tree in trees():
            for node in tree.body:
                plain = isinstance(node, ast.Expr) and isinstance(node.value, ast.Constant)
                self.assertTrue(plain or isinstance(node, (ast.ImportFrom, ast.FunctionDef, ast.ClassDef, ast.Assign)), path)

    def test_decorators(self):
        for place, node in nodes((ast.FunctionDef, ast.ClassDef)):
            for one in node.decorator_list:
                self.assertIn(getattr(one, "id", None), ["property", "staticmethod", "classmethod"], place)

    def test_expressions(self):
        barred = (ast.GeneratorExp, ast.Await, ast.Yield, ast.YieldFrom, ast.Div, ast.MatMult)
        for path, tree in trees():
            self.assertFalse([node for node in ast.walk(tree) if isinstance(node, barred)], path)
        for place, node in nodes(ast.Constant):
            self.assertNotIsInstance(node.value, (float, complex), place)
            if isinstance(node.value, str):
                self.assertNotIn("%", node.value, place)
        for place, node in nodes(ast.BinOp):
            if isinstance(node.op, ast.Pow):
                self.assertIsInstance(node.right, ast.Constant, place)
        for place, node in nodes(ast.Compare):
            for sign, right in zip(node.ops, node.comparators):
                if isinstance(sign, (ast.Is, ast.IsNot)):
                    self.assertTrue(isinstance(right, ast.Constant) and right.value in (None, True, False), place)

    def test_sets_stand_in_len_alone(self):
        for path, tree in trees():
            counted = [
                node.args[0] for node in ast.walk(tree)
                if isinstance(node, ast.Call) and getattr(node.func, "id", "") == "len"
            ]
            for node in ast.walk(tree):
                if isinstance(node, ast.Call) and getattr(node.func, "id", "") == "set":
                    self.assertIn(node, counted, f"{path}:{node.lineno}")


    def test_handlers_and_blocks(self):
        """Own errors alone are caught; a block of `with` restores what it changed by assignments alone."""
        own = {node.name for node in ast.parse((PACKAGE / "errors.py").read_text()).body if isinstance(node, ast.ClassDef)}
        for place, node in nodes(ast.ExceptHandler):
            caught = node.type.elts if isinstance(node.type, ast.Tuple) else [node.type]
            self.assertLessEqual({name.id for name in caught}, own, place)
        for place, node in nodes(ast.Try):
            self.assertFalse(node.finalbody or node.orelse, place)
        for place, node in nodes(ast.FunctionDef):
            if node.name == "__exit__":
                self.assertTrue(all(isinstance(line, ast.Assign) for line in node.body), place)
        for place, node in nodes(ast.ClassDef):
            names = {part.name for part in node.body if isinstance(part, ast.FunctionDef)}
            self.assertTrue("__getitem__" not in names or "__iter__" in names, place)

    def test_stars(self):
        """Behind a star in a call stands a name; behind two in a dict a name or an attribute off one."""
        for place, node in nodes(ast.Call):
            for part in node.args:
                if isinstance(part, ast.Starred):
                    self.assertIsInstance(part.value, ast.Name, place)
            self.assertTrue(all(part.arg is not None for part in node.keywords), place)
        for place, node in nodes(ast.Dict):
            for key, value in zip(node.keys, node.values):
                if key is None:
                    self.assertTrue(isinstance(getattr(value, "value", value), ast.Name), place)

    def test_module_level(self):
        """Values are plain; lists and dicts contain neither lists nor dicts."""
        plain = (ast.Constant, ast.Tuple, ast.Dict, ast.List, ast.Load, ast.UnaryOp, ast.USub)
        for path, tree in trees():
            for node in tree.body:
                if isinstance(node, ast.Assign):
                    inner = list(ast.walk(node.value))
                    self.assertTrue(all(isinstance(part, plain) for part in inner), path)
                    self.assertFalse([part for part in inner[1:] if isinstance(part, (ast.Dict, ast.List))], path)


class TestNames(unittest.TestCase):
    def test_builtins_and_methods(self):
        own = {node.name for _, node in nodes(ast.FunctionDef)}
        for place, node in nodes(ast.Name):
            # A name of one underscore is bound by Python's own prompt, also within doctests.
            if hasattr(builtins, node.id) and node.id != "_":
                self.assertIn(node.id, BUILTINS, place)
                self.assertIsInstance(node.ctx, ast.Load, place)
        for place, node in nodes(ast.Call):
            if isinstance(node.func, ast.Attribute):
                self.assertIn(node.func.attr, METHODS | own, place)
        for place, node in nodes(ast.arg):
            self.assertFalse(hasattr(builtins, node.arg), place)
        for place, node in nodes((ast.FunctionDef, ast.ClassDef)):
            self.assertFalse(hasattr(builtins, node.name) and not node.name.startswith("__"), place)

    def test_words(self):
        for path, tree in trees():
            told = docstrings(tree)
            words = set()
            for node in ast.walk(tree):
                if isinstance(node, ast.Constant) and isinstance(node.value, str) and node not in told:
                    words.update(re.findall("[A-Za-z_]+", node.value))
                for part in ("id", "attr", "arg", "name"):
                    words.add(getattr(node, part, None))
            self.assertFalse(words & BARRED, path)

    def test_one_binding(self):
        for path, tree in trees():
            bound = []
            for node in tree.body:
                if isinstance(node, ast.ImportFrom):
                    bound.extend(alias.name for alias in node.names)
                elif isinstance(node, (ast.FunctionDef, ast.ClassDef)):
                    bound.append(node.name)
                elif isinstance(node, ast.Assign):
                    bound.append(node.targets[0].id)
            self.assertEqual(len(bound), len(set(bound)), path)
            barred = {alias.name for node in tree.body if isinstance(node, ast.ImportFrom) for alias in node.names}
            barred |= {node.name for node in tree.body if isinstance(node, ast.ClassDef)}
            for node in ast.walk(tree):
                if isinstance(node, ast.Name) and isinstance(node.ctx, ast.Store) or isinstance(node, ast.arg):
                    name = node.id if isinstance(node, ast.Name) else node.arg
                    self.assertNotIn(name, barred, f"{path}:{node.lineno}")


if __name__ == "__main__":
    unittest.main()
