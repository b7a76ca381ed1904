"""The form of the package's code, as far as a walk over it can see; the numbers are the rules' numbers."""

import ast
import builtins
import pathlib
import re
import unittest

PACKAGE = pathlib.Path(__file__).resolve().parent.parent / "oncerounded"

OWN_NAMES = set("""len range enumerate zip min max sum abs sorted reversed int str bool list tuple dict set frozenset
isinstance ord repr any all divmod""".split())
ERRORS = set("""Exception ValueError TypeError KeyError IndexError LookupError ZeroDivisionError ArithmeticError
OverflowError RuntimeError NotImplementedError AttributeError StopIteration""".split())
METHODS = set("""append clear copy count endswith extend find get index insert isalnum isalpha isdigit islower isspace
isupper items join keys ljust lower lstrip partition pop remove replace reverse rfind rjust rpartition rsplit rstrip
setdefault split splitlines startswith strip update upper values zfill bit_length""".split())
WORDS = set("""type typing typing_extensions enum Enum IntEnum StrEnum Flag IntFlag Generic Protocol ABC ABCMeta
namedtuple NamedTuple TypedDict TYPE_CHECKING abstractmethod""".split())
FORBIDDEN = (ast.With, ast.Match, ast.Delete, ast.Global, ast.Nonlocal, ast.Assert, ast.Yield, ast.YieldFrom,
             ast.AsyncFunctionDef, ast.Await, ast.NamedExpr, ast.Starred, ast.Set, ast.SetComp, ast.DictComp,
             ast.GeneratorExp, ast.Div, ast.Import, ast.AnnAssign, ast.Is, ast.IsNot, ast.MatMult)


def files():
    return sorted(PACKAGE.glob("*.py"))


def builtin_names():
    return set(dir(builtins))


class Form(unittest.TestCase):
    def trees(self):
        for path in files():
            yield path, ast.parse(path.read_text(encoding="utf-8"))

    def test_files(self):
        self.assertTrue((PACKAGE / "__init__.py").is_file())
        for path in PACKAGE.iterdir():
            if path.name != "__pycache__":
                self.assertRegex(path.name, r"^[a-z0-9_]+\.py$", "L1, L14")
                self.assertNotIn(path.stem, builtin_names(), "L14")

    def test_size_and_signs(self):
        for path in files():
            text = path.read_text(encoding="utf-8")
            lines = text.split("\n")
            self.assertLessEqual(len(lines), 400, (path, "L10"))
            self.assertLessEqual(max(len(line) for line in lines), 120, (path, "L10"))
            self.assertRegex(text, r"\A[ -~\n]*\Z", "L14")
            self.assertEqual(set(re.findall(r"\w+", text)) & WORDS, set(), (path, "L17"))
            self.assertIsNone(re.search("dataclass|overload|contextmanager", text), (path, "L17"))

    def test_functions(self):
        for path, tree in self.trees():
            for node in ast.walk(tree):
                if isinstance(node, ast.FunctionDef):
                    self.assertLessEqual(node.end_lineno - node.lineno + 1, 40, (path, node.name, "L10"))
                    self.assertEqual(node.decorator_list, [], "L4")
                    arguments = node.args
                    self.assertFalse(arguments.vararg or arguments.kwarg or arguments.kwonlyargs, "L4")

    def test_top_of_a_file(self):
        for path, tree in self.trees():
            self.assertIsNotNone(ast.get_docstring(tree), (path, "L3"))
            bound = []
            for node in tree.body[1:]:
                self.assertIsInstance(node, (ast.ImportFrom, ast.FunctionDef, ast.ClassDef, ast.Assign), "L3")
                if isinstance(node, ast.ImportFrom):
                    self.assertRegex(node.module, r"^oncerounded\.[a-z]+$", "L2")
                    bound.extend(alias.name for alias in node.names)
                elif isinstance(node, ast.Assign):
                    ast.literal_eval(node.value)
                    bound.append(node.targets[0].id)
                else:
                    bound.append(node.name)
            self.assertEqual(len(bound), len(set(bound)), (path, "L15"))

    def test_imports_come_from_where_the_name_is_defined_and_are_used(self):
        for path, tree in self.trees():
            used = {node.id for node in ast.walk(tree) if isinstance(node, ast.Name)}
            for node in tree.body:
                if isinstance(node, ast.ImportFrom):
                    source = ast.parse((PACKAGE / (node.module.split(".")[1] + ".py")).read_text(encoding="utf-8"))
                    defined = {getattr(part, "name", None) for part in source.body}
                    defined |= {part.targets[0].id for part in source.body if isinstance(part, ast.Assign)}
                    for alias in node.names:
                        self.assertIn(alias.name, defined, (path, "L16"))
                        self.assertIn(alias.name, used, (path, "not used"))

    def test_imports_go_in_no_circle(self):
        draws = {}
        for path, tree in self.trees():
            draws[path.stem] = {node.module.split(".")[1] for node in tree.body if isinstance(node, ast.ImportFrom)}
        while draws:
            free = [name for name in draws if not draws[name] & set(draws)]
            self.assertTrue(free, "L16")
            for name in free:
                del draws[name]

    def test_statements_and_expressions(self):
        for path, tree in self.trees():
            for node in ast.walk(tree):
                self.assertNotIsInstance(node, FORBIDDEN, (path, getattr(node, "lineno", 0), "L6, L7"))
                if isinstance(node, ast.Assign):
                    self.assertEqual(len(node.targets), 1, (path, node.lineno, "L6"))
                    self.assertNotIsInstance(node.targets[0], (ast.Tuple, ast.List), (path, node.lineno, "L6"))
                if isinstance(node, ast.Expr) and node not in tree.body:
                    self.assertIsInstance(node.value, ast.Call, (path, node.lineno, "L6"))
                if isinstance(node, (ast.For, ast.While)):
                    self.assertEqual(node.orelse, [], (path, node.lineno, "L6"))
                if isinstance(node, ast.Constant):
                    self.assertNotIsInstance(node.value, (float, bytes, complex), (path, node.lineno, "L7"))
                if isinstance(node, ast.BinOp) and isinstance(node.op, ast.Pow):
                    self.assertIsInstance(node.right, ast.Constant, (path, node.lineno, "L27"))

    def test_names(self):
        for path, tree in self.trees():
            top = {node.name for node in tree.body if isinstance(node, (ast.FunctionDef, ast.ClassDef))}
            top |= {alias.name for node in tree.body if isinstance(node, ast.ImportFrom) for alias in node.names}
            for node in ast.walk(tree):
                if isinstance(node, ast.Name) and node.id in builtin_names():
                    self.assertIn(node.id, OWN_NAMES | ERRORS, (path, node.lineno, "L8"))
                    self.assertIsInstance(node.ctx, ast.Load, (path, node.lineno, "L8"))
                stored = isinstance(node, ast.Name) and isinstance(node.ctx, ast.Store)
                name = node.id if stored else node.arg if isinstance(node, ast.arg) else None
                if name is not None:
                    self.assertNotIn(name, top | builtin_names(), (path, node.lineno, "L15"))
                    self.assertRegex(name, r"^[A-Za-z][A-Za-z0-9_]*$", "L12")

    def test_errors(self):
        own = {node.name for path, tree in self.trees() for node in tree.body
               if isinstance(node, ast.ClassDef) and node.bases}
        for path, tree in self.trees():
            for node in ast.walk(tree):
                if isinstance(node, ast.ClassDef) and node.bases:
                    self.assertEqual(len(node.bases), 1, (path, node.lineno, "L5"))
                    self.assertIn(node.bases[0].id, (own | ERRORS) - {"StopIteration", "AttributeError"}, "L18")
                if isinstance(node, ast.ExceptHandler):
                    self.assertIn(node.type.id, own, (path, node.lineno, "L19"))
                if isinstance(node, ast.Raise):
                    self.assertIn(node.exc.func.id, own, (path, node.lineno, "L19"))
                if isinstance(node, ast.Try):
                    self.assertEqual(node.finalbody, [], (path, node.lineno, "L6"))

    def test_texts(self):
        for path, tree in self.trees():
            for node in ast.walk(tree):
                if isinstance(node, ast.Constant) and isinstance(node.value, str):
                    self.assertNotIn("%", node.value, (path, node.lineno, "L27"))

    def test_methods(self):
        own = {node.attr for path, tree in self.trees() for node in ast.walk(tree)
               if isinstance(node, ast.Attribute) and isinstance(node.ctx, ast.Store)}
        taken = {name for kind in (str, int, list, dict, set, bytes, float, tuple) for name in dir(kind)}
        self.assertEqual(own & taken, set(), "L26")
        for path, tree in self.trees():
            for node in ast.walk(tree):
                if isinstance(node, ast.Attribute):
                    self.assertIn(node.attr, METHODS | own, (path, node.lineno, "L25"))


if __name__ == "__main__":
    unittest.main()
