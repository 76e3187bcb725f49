"""The rules of LANGUAGE.md that can be seen in the code without running it."""

import ast
import builtins
import importlib
import re
import sys
import unittest
from pathlib import Path

ROOT = Path(__file__).resolve().parent.parent
PACKAGE = ROOT / "touchtowers"
LIBRARY = {"math": {"gcd", "lcm", "isqrt", "comb", "perm", "factorial"}}
BUILTINS = set("""len range enumerate zip min max sum abs sorted reversed int str bool list tuple dict set isinstance ord
    repr any all divmod iter next Exception ValueError TypeError KeyError IndexError LookupError ZeroDivisionError
    ArithmeticError OverflowError RuntimeError NotImplementedError NotImplemented property classmethod
    staticmethod""".split())
METHODS = set("""append clear copy count endswith extend find get index insert isalnum isalpha isdigit islower isspace
    isupper items join keys ljust lower lstrip partition pop remove replace reverse rfind rjust rpartition rsplit
    rstrip setdefault split splitlines startswith strip update upper values zfill bit_length title capitalize
    isascii isdecimal removeprefix removesuffix add discard""".split())
DUNDERS = {"__init__", "__eq__", "__str__", "__repr__", "__len__", "__iter__", "__contains__", "__enter__", "__exit__"}
BARRED_NAMES = set("""register mro elements open input law version_info with_traceback add_note attrgetter breakpoint
    builtins compile copyright credits delattr dir eval exec exit gc getattr globals hasattr help id importlib license
    locals methodcaller os quit setattr super type vars sys""".split())
BARRED_WORDS = set("""typing typing_extensions enum Enum IntEnum StrEnum Flag IntFlag Generic Protocol ABC ABCMeta
    namedtuple NamedTuple TypedDict TYPE_CHECKING abstractmethod dataclass overload contextmanager""".split())
NODES_NOT_USED = (ast.Global, ast.Nonlocal, ast.AsyncFunctionDef, ast.Await, ast.AsyncFor, ast.AsyncWith, ast.Div,
                  ast.Try, ast.GeneratorExp, ast.NamedExpr, ast.AnnAssign, ast.Import, ast.MatMult)
STANDARD = set(sys.stdlib_module_names)


def files():
    return sorted(path for path in PACKAGE.rglob("*.py"))


def tree_of(path):
    return ast.parse(path.read_text(encoding="ascii"))


def each_file():
    for path in files():
        yield path, tree_of(path)


def module_name(path):
    parts = path.relative_to(ROOT).with_suffix("").parts
    return ".".join(parts[:-1] if parts[-1] == "__init__" else parts)


def bound_names(tree):
    """All names that a file binds, but for attributes and methods."""
    for node in ast.walk(tree):
        if isinstance(node, ast.Name) and isinstance(node.ctx, (ast.Store, ast.Del)):
            yield node.id
        elif isinstance(node, ast.arg):
            yield node.arg
        elif isinstance(node, ast.ClassDef):
            yield node.name
        elif isinstance(node, ast.alias):
            yield node.asname or node.name
    for node in tree.body:
        if isinstance(node, ast.FunctionDef):
            yield node.name


def functions(tree):
    return [node for node in ast.walk(tree) if isinstance(node, ast.FunctionDef)]


def classes(tree):
    return [node for node in ast.walk(tree) if isinstance(node, ast.ClassDef)]


class LanguageTest(unittest.TestCase):

    def test_each_file(self):
        checks = [name for name in dir(self) if name.startswith("rule_")]
        for path, tree in each_file():
            for name in checks:
                with self.subTest(f"{name} {path.relative_to(ROOT)}"):
                    getattr(self, name)(path, tree)

    def test_files(self):
        for path in PACKAGE.rglob("*"):
            if "__pycache__" in path.parts:
                continue
            self.assertTrue(path.is_dir() or path.suffix == ".py", path)
            self.assertRegex(path.stem, r"^([a-z][a-z0-9_]*|__init__)$")
            self.assertFalse(path.stem in dir(builtins) and path.stem != "__init__", path)
            self.assertFalse(path.stem.startswith(("test", "law_")), path)
            if path.is_dir():
                self.assertTrue((path / "__init__.py").exists(), path)
                self.assertFalse(path.with_suffix(".py").exists(), path)
        self.assertLessEqual(len(files()), 100)
        self.assertNotIn("touchtowers", STANDARD)

    def rule_size_and_signs(self, path, tree):
        text = path.read_text(encoding="utf-8")
        rows = text.splitlines()
        self.assertLessEqual(len(rows), 399)
        self.assertLessEqual(max(len(row) for row in rows), 120)
        self.assertRegex(text, r"\A[ -~\n]*\Z")
        for function in functions(tree):
            self.assertLessEqual(function.end_lineno - function.lineno + 1, 40, function.name)

    def rule_module_level(self, path, tree):
        seen_other = False
        for node in tree.body:
            if isinstance(node, ast.Expr):
                self.assertIs(node, tree.body[0])
            elif isinstance(node, ast.ImportFrom):
                self.assertFalse(seen_other, "imports stand at the top")
            else:
                seen_other = True
                self.assertIsInstance(node, (ast.FunctionDef, ast.ClassDef, ast.Assign))
            if isinstance(node, ast.Assign):
                self.assertEqual(len(node.targets), 1)
                self.assertIsInstance(node.targets[0], ast.Name)
                ast.literal_eval(node.value)

    def test_imports(self):
        edges = {}
        for path, tree in each_file():
            for node in ast.walk(tree):
                if not isinstance(node, ast.ImportFrom):
                    continue
                self.assertEqual(node.level, 0)
                for alias in node.names:
                    self.assertIsNone(alias.asname)
                    if node.module in LIBRARY:
                        self.assertIn(alias.name, LIBRARY[node.module])
                    else:
                        self.assertTrue(node.module.startswith("touchtowers."))
                        self.assertIn(alias.name, self.defined(node.module))
                        edges.setdefault(module_name(path), set()).add(node.module)
        for name in edges:
            self.assertNotIn(name, self.reached(edges, name), "a circle of imports")

    def defined(self, module):
        tree = tree_of(Path(importlib.import_module(module).__file__))
        names = [node.name for node in tree.body if isinstance(node, (ast.FunctionDef, ast.ClassDef))]
        return names + [node.targets[0].id for node in tree.body if isinstance(node, ast.Assign)]

    def reached(self, edges, name):
        found, rest = set(), list(edges.get(name, ()))
        while rest:
            step = rest.pop()
            if step not in found:
                found.add(step)
                rest.extend(edges.get(step, ()))
        return found

    def rule_imported_names_are_used(self, path, tree):
        loaded = [node.id for node in ast.walk(tree) if isinstance(node, ast.Name)]
        for node in tree.body:
            if isinstance(node, ast.ImportFrom):
                for alias in node.names:
                    self.assertIn(alias.name, loaded)

    def rule_names(self, path, tree):
        top = [node.name for node in tree.body if isinstance(node, (ast.FunctionDef, ast.ClassDef))]
        top += [node.targets[0].id for node in tree.body if isinstance(node, ast.Assign)]
        top += [alias.name for node in tree.body if isinstance(node, ast.ImportFrom) for alias in node.names]
        self.assertEqual(len(top), len(set(top)), "a name is bound once")
        for name in bound_names(tree):
            self.assertFalse(hasattr(builtins, name), name)
            self.assertNotIn(name, BARRED_NAMES)
            self.assertRegex(name, r"^_?[A-Za-z][A-Za-z0-9_]*$|^_$")
        local = [node.arg for node in ast.walk(tree) if isinstance(node, ast.arg)]
        for function in functions(tree):
            local += [node.id for node in ast.walk(function)
                      if isinstance(node, ast.Name) and isinstance(node.ctx, ast.Store)]
        self.assertFalse(set(local) & set(top), "a local name hides one of the file")

    def rule_words(self, path, tree):
        text = path.read_text(encoding="ascii")
        for word in re.findall(r"[A-Za-z_]+", text):
            self.assertFalse(word in BARRED_WORDS or word.startswith("_wall"), word)
        for node in ast.walk(tree):
            if isinstance(node, ast.Constant) and isinstance(node.value, str):
                self.assertNotIn("%", node.value)
                self.assertNotIn("__", node.value)
            self.assertFalse(isinstance(node, ast.Constant) and isinstance(node.value, (float, complex, bytes)))

    def rule_kinds_of_code(self, path, tree):
        for node in ast.walk(tree):
            self.assertNotIsInstance(node, NODES_NOT_USED)
            if isinstance(node, ast.Compare):
                for sign, side in zip(node.ops, node.comparators):
                    if isinstance(sign, (ast.Is, ast.IsNot)):
                        self.assertIsInstance(side, ast.Constant)
                        self.assertIn(side.value, (None, True, False))
            if isinstance(node, ast.BinOp) and isinstance(node.op, ast.Pow):
                self.assertIsInstance(node.right, ast.Constant)
                self.assertTrue(0 <= node.right.value <= 64)
            if isinstance(node, ast.AugAssign):
                self.fail("no own rows use this sign")
            if isinstance(node, ast.Raise):
                self.assertIsInstance(node.exc, ast.Call)
                self.assertIsNone(node.cause)

    def test_calls(self):
        own = set()
        for path in files():
            for node in ast.walk(tree_of(path)):
                if isinstance(node, (ast.FunctionDef, ast.ClassDef)):
                    own.add(node.name)
        for path, tree in each_file():
            for node in ast.walk(tree):
                if not isinstance(node, ast.Call):
                    continue
                if isinstance(node.func, ast.Attribute):
                    self.assertIn(node.func.attr, METHODS | own | {"__init__"})
                elif isinstance(node.func, ast.Name):
                    known = node.func.id in BUILTINS | own | {"cls", "call"} | LIBRARY["math"]
                    self.assertTrue(known, node.func.id)
                for keyword in node.keywords:
                    self.assertIn(keyword.arg, ("key", "default", "start", "reverse", "strict"))
                stars = [argument for argument in node.args if isinstance(argument, ast.Starred)]
                if stars:
                    self.assertEqual(node.func.id, "zip")

    def test_classes(self):
        methods = {}
        for path, tree in each_file():
            for kind in classes(tree):
                self.assertFalse(kind.decorator_list)
                self.assertFalse(kind.keywords)
                for node in kind.body:
                    docstring = isinstance(node, ast.Expr) and isinstance(node.value, ast.Constant)
                    self.assertTrue(docstring or isinstance(node, ast.FunctionDef))
                    if isinstance(node, ast.FunctionDef):
                        self.check_method(node)
                        methods.setdefault(node.name, []).append([sign.id for sign in node.decorator_list])
        for name, decorators in methods.items():
            self.assertTrue(all(one == decorators[0] for one in decorators), name)

    def test_properties(self):
        properties, methods, assigned = set(), set(), set()
        for path, tree in each_file():
            for kind in classes(tree):
                for node in kind.body:
                    if isinstance(node, ast.FunctionDef):
                        signs = [sign.id for sign in node.decorator_list]
                        (properties if "property" in signs else methods).add(node.name)
            assigned |= {node.attr for node in ast.walk(tree)
                         if isinstance(node, ast.Attribute) and isinstance(node.ctx, ast.Store)}
        self.assertFalse(properties & assigned, "a property is assigned")
        self.assertFalse(properties & methods, "a name is a property and a method")
        self.assertFalse(methods & assigned, "a name is a method and an attribute")

    def check_method(self, node):
        if node.name.startswith("__"):
            self.assertIn(node.name, DUNDERS)
        elif node.name != "read":
            self.assertFalse(hasattr(str, node.name) or hasattr(list, node.name) or hasattr(dict, node.name))
        for sign in node.decorator_list:
            self.assertIn(sign.id, ("property", "classmethod", "staticmethod"))
        if node.name in ("__len__", "__str__", "__iter__"):
            self.assertIsInstance(node.body[-1], ast.Return)
        if node.name == "__len__":
            self.assertEqual(node.body[-1].value.func.id, "len")
        if node.name == "__iter__":
            self.assertEqual(len(node.body), 1)

    def rule_functions(self, path, tree):
        inside = [method for kind in classes(tree) for method in kind.body]
        for function in functions(tree):
            self.assertTrue(function in tree.body or function in inside, "no nested functions")
            self.assertTrue(ast.get_docstring(function) or function.name.startswith("__"), function.name)
            if function in tree.body:
                self.assertFalse(function.decorator_list)
            self.assertFalse(function.args.kwarg or function.args.vararg)


if __name__ == "__main__":
    unittest.main()
