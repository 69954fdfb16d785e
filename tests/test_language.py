"""Holds the package's files to the rules of their form that can be seen in a file's tree."""

import ast
import builtins
import pathlib
import re
import unittest

PACKAGE = pathlib.Path(__file__).resolve().parent.parent / "tangledfiles"
FILES = sorted(PACKAGE.rglob("*.py"))

STATEMENTS = (ast.Assign, ast.AugAssign, ast.If, ast.While, ast.For, ast.Return, ast.Break, ast.Continue, ast.Pass,
              ast.Raise, ast.Try, ast.Expr, ast.FunctionDef, ast.ClassDef, ast.ImportFrom)
EXPRESSIONS = (ast.Constant, ast.List, ast.Tuple, ast.Dict, ast.BinOp, ast.UnaryOp, ast.BoolOp, ast.Compare,
               ast.IfExp, ast.Call, ast.Attribute, ast.Subscript, ast.Slice, ast.ListComp, ast.Name, ast.Lambda,
               ast.JoinedStr, ast.FormattedValue)
OWN_NAMES = set("""len range enumerate zip min max sum abs sorted reversed int str bool list tuple dict set frozenset
    isinstance ord repr any all divmod Exception ValueError KeyError IndexError LookupError ZeroDivisionError
    ArithmeticError OverflowError RuntimeError NotImplementedError""".split())
OWN_METHODS = set("""append clear copy count endswith extend find get index insert isalnum isalpha isdigit islower
    isspace isupper items join keys ljust lower lstrip partition pop remove replace reverse rfind rjust rpartition
    rsplit rstrip setdefault split splitlines startswith strip update upper values zfill bit_length""".split())
UNUSED = set("register mro elements open input version_info with_traceback add_note format format_map".split())
NO_WORDS = set("""type typing typing_extensions enum Enum IntEnum StrEnum Flag IntFlag Generic Protocol ABC ABCMeta
    namedtuple NamedTuple TypedDict TYPE_CHECKING abstractmethod""".split())
WALKED = ("zip", "enumerate", "reversed", "range")


def tree_of(path):
    return ast.parse(path.read_text("ascii"))


def nodes(kind):
    return [(path.name, node) for path in FILES for node in ast.walk(tree_of(path)) if isinstance(node, kind)]


def classes():
    return [node for name, node in nodes(ast.ClassDef)]


def method_names():
    return {step.name for node in classes() for step in node.body if isinstance(step, ast.FunctionDef)}


def value_names():
    return {node.attr for name, node in nodes(ast.Attribute) if isinstance(node.ctx, ast.Store)}


def bound_names(function):
    names = [step.arg for step in ast.walk(function.args) if isinstance(step, ast.arg)]
    names += [step.id for step in ast.walk(function) if isinstance(step, ast.Name) and isinstance(step.ctx, ast.Store)]
    names += [step.name for step in ast.walk(function) if isinstance(step, ast.ExceptHandler) and step.name]
    return names


class Files(unittest.TestCase):
    def test_nothing_but_files_of_the_package(self):
        others = [path for path in PACKAGE.rglob("*") if path not in FILES and "__pycache__" not in path.parts]
        self.assertEqual(others, [])
        self.assertIn(PACKAGE / "__init__.py", FILES)
        self.assertIn(PACKAGE / "document.py", FILES)

    def test_signs_and_sizes(self):
        for path in FILES:
            text = path.read_bytes()
            self.assertTrue(all(byte == 10 or 32 <= byte <= 126 for byte in text), path)
            rows = text.split(b"\n")
            self.assertLessEqual(len(rows), 400, path)
            self.assertLessEqual(max(len(row) for row in rows), 120, path)

    def test_size_of_functions(self):
        for name, node in nodes(ast.FunctionDef):
            self.assertLessEqual(node.end_lineno - node.lineno + 1, 40, (name, node.name))

    def test_words_that_stand_nowhere(self):
        for path in FILES:
            text = path.read_text("ascii")
            self.assertEqual(NO_WORDS & set(re.findall(r"\w+", text)), set(), path)
            self.assertIsNone(re.search("dataclass|overload|contextmanager", text), path)


class Forms(unittest.TestCase):
    def test_statements_and_expressions(self):
        for name, node in nodes(ast.stmt):
            self.assertIsInstance(node, STATEMENTS, (name, node.lineno))
        for name, node in nodes(ast.expr):
            self.assertIsInstance(node, EXPRESSIONS, (name, node.lineno))

    def test_statements_in_their_narrow_form(self):
        for name, node in nodes(ast.Assign):
            self.assertEqual(len(node.targets), 1)
        for name, node in nodes((ast.For, ast.While)):
            self.assertEqual(node.orelse, [], (name, node.lineno))
        for name, node in nodes(ast.Try):
            self.assertEqual(node.finalbody, [])
        for name, node in nodes(ast.Expr):
            self.assertIsInstance(node.value, (ast.Call, ast.Constant), (name, node.lineno))

    def test_expressions_in_their_narrow_form(self):
        for name, node in nodes(ast.comprehension):
            self.assertLessEqual(len(node.ifs), 1)
        for name, node in nodes(ast.ListComp):
            self.assertEqual(len(node.generators), 1)
        for name, node in nodes(ast.BinOp):
            self.assertNotIsInstance(node.op, (ast.Div, ast.MatMult))
        for name, node in nodes(ast.Constant):
            self.assertIsInstance(node.value, (int, str, type(None)))
            if isinstance(node.value, str):
                self.assertNotIn("%", node.value)
        for name, node in nodes(ast.Compare):
            if isinstance(node.ops[0], (ast.Is, ast.IsNot)):
                self.assertIn(node.comparators[0].value, (None, True, False))

    def test_imports(self):
        for name, node in nodes(ast.ImportFrom):
            self.assertTrue(node.level == 0 and node.module.startswith("tangledfiles."), name)
            source = tree_of(PACKAGE / (node.module.split(".")[1] + ".py"))
            defined = [step.name for step in source.body if isinstance(step, (ast.FunctionDef, ast.ClassDef))]
            defined += [step.targets[0].id for step in source.body if isinstance(step, ast.Assign)]
            for alias in node.names:
                self.assertIn(alias.name, defined, name)
                self.assertIsNone(alias.asname)

    def test_every_import_is_used(self):
        for path in FILES:
            tree = tree_of(path)
            used = {node.id for node in ast.walk(tree) if isinstance(node, ast.Name)}
            for step in tree.body:
                if isinstance(step, ast.ImportFrom):
                    self.assertIn(step.names[0].name, used, path)

    def test_no_two_files_draw_from_one_another(self):
        drawn = {}
        for name, node in nodes(ast.ImportFrom):
            drawn.setdefault(name, set()).add(node.module.split(".")[1] + ".py")
        for name in drawn:
            reached = set(drawn[name])
            while True:
                more = reached.union(*[drawn.get(other, set()) for other in reached])
                if more == reached:
                    break
                reached = more
            self.assertNotIn(name, reached)

    def test_functions(self):
        for name, node in nodes((ast.FunctionDef, ast.Lambda)):
            self.assertIsNone(node.args.vararg)
            self.assertIsNone(node.args.kwarg)
            self.assertEqual(node.args.kwonlyargs + node.args.posonlyargs, [])
        for name, node in nodes(ast.FunctionDef):
            self.assertEqual(node.decorator_list, [])
            self.assertIsNone(node.returns)
        for name, node in nodes(ast.arg):
            self.assertIsNone(node.annotation)

    def test_top_of_a_file(self):
        for path in FILES:
            for step in tree_of(path).body:
                self.assertIsInstance(step, (ast.Expr, ast.ImportFrom, ast.FunctionDef, ast.ClassDef, ast.Assign), path)
                if isinstance(step, ast.Assign):
                    calls = [node for node in ast.walk(step.value) if isinstance(node, (ast.Call, ast.ListComp))]
                    self.assertEqual(calls, [], path)


class Names(unittest.TestCase):
    def test_names_of_python_s_own(self):
        for name, node in nodes(ast.Name):
            if hasattr(builtins, node.id):
                self.assertIn(node.id, OWN_NAMES, (name, node.lineno))
                self.assertIsInstance(node.ctx, ast.Load, (name, node.lineno))

    def test_locals_have_names_of_their_own(self):
        for path in FILES:
            tree = tree_of(path)
            taken = {step.name for step in tree.body if isinstance(step, ast.ClassDef)}
            taken |= {alias.name for step in tree.body if isinstance(step, ast.ImportFrom) for alias in step.names}
            for function in [node for node in ast.walk(tree) if isinstance(node, ast.FunctionDef)]:
                for bound in bound_names(function):
                    self.assertNotIn(bound, taken, path)
                    self.assertFalse(hasattr(builtins, bound), (path, bound))
                    self.assertRegex(bound, r"\A[A-Za-z][A-Za-z0-9_]*\Z")
                    self.assertNotIn(bound, UNUSED)

    def test_top_names_are_bound_once(self):
        for path in FILES:
            names = []
            for step in tree_of(path).body:
                if isinstance(step, (ast.FunctionDef, ast.ClassDef)):
                    names.append(step.name)
                elif isinstance(step, ast.ImportFrom):
                    names += [alias.name for alias in step.names]
                elif isinstance(step, ast.Assign):
                    names.append(step.targets[0].id)
            self.assertEqual(len(names), len(set(names)), path)

    def test_methods_and_values(self):
        self.assertEqual(method_names() & value_names(), set())
        taken = {name for kind in (str, int, list, dict, set, bytes) for name in dir(kind)}
        own = (method_names() | value_names()) - {"__init__"}
        self.assertEqual(own & taken, set())
        self.assertEqual(own & UNUSED, set())

    def test_methods_that_are_called(self):
        own = method_names()
        for name, node in nodes(ast.Call):
            if isinstance(node.func, ast.Attribute):
                self.assertIn(node.func.attr, own | OWN_METHODS, (name, node.lineno))
            if isinstance(node.func, ast.Name) and node.func.id == "set":
                self.assertEqual(len(node.args), 1)

    def test_walked_on_the_spot(self):
        allowed = []
        for name, node in nodes((ast.For, ast.comprehension)):
            allowed.append(ast.dump(node.iter, include_attributes=True))
        for name, node in nodes(ast.Call):
            if isinstance(node.func, ast.Name) and node.func.id in WALKED:
                self.assertIn(ast.dump(node, include_attributes=True), allowed, (name, node.lineno))


if __name__ == "__main__":
    unittest.main()
