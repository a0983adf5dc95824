"""The form of the package's own files: the rules of ../shared/LANGUAGE.md that can be seen in the code."""

import ast
import builtins
import re
import unittest
from pathlib import Path

PACKAGE = Path(__file__).resolve().parent.parent / "twostrands"

NODES = """
Module FunctionDef Lambda arguments arg ClassDef Return Assign AugAssign For While If Raise Try ExceptHandler
Expr Pass Break Continue ImportFrom alias Name Load Store Constant List Tuple Dict Set BinOp UnaryOp BoolOp Compare
IfExp Call keyword Attribute Subscript Slice ListComp comprehension JoinedStr FormattedValue
Add Sub Mult FloorDiv Mod Pow LShift RShift BitOr BitXor BitAnd And Or Not Invert USub UAdd
Eq NotEq Lt LtE Gt GtE Is IsNot In NotIn
""".split()
BUILT_IN = """
len range enumerate zip min max sum abs sorted reversed int str bool list tuple dict set frozenset isinstance ord repr
any all divmod Exception ValueError TypeError KeyError IndexError LookupError ZeroDivisionError ArithmeticError
OverflowError RuntimeError NotImplementedError AttributeError StopIteration
""".split()
METHODS = """
append clear copy count endswith extend find get index insert isalnum isalpha isdigit islower isspace isupper items
join keys ljust lower lstrip partition pop remove replace reverse rfind rjust rpartition rsplit rstrip setdefault split
splitlines startswith strip update upper values zfill bit_length
""".split()
NEVER = "register mro elements open input version_info with_traceback add_note format format_map".split()
WORDS = """
type typing typing_extensions enum Enum IntEnum StrEnum Flag IntFlag Generic Protocol ABC ABCMeta namedtuple NamedTuple
TypedDict TYPE_CHECKING abstractmethod
""".split()
UNDERSCORED = "__init__ __eq__ __repr__ __str__ __len__ __all__ __version__ __name__".split()
WALKED = "zip enumerate reversed range".split()
WALKERS = "list tuple dict sorted sum any all enumerate zip min max".split()
PYTHONS_OWN = {name for value in (str, int, list, dict, set, bytes) for name in dir(value)}


def files():
    return sorted(PACKAGE.rglob("*.py"))


def trees():
    for path in files():
        yield path, ast.parse(path.read_text(encoding="ascii"))


def nodes(*kinds):
    for path, tree in trees():
        for node in ast.walk(tree):
            if isinstance(node, kinds):
                yield f"{path.name}:{getattr(node, 'lineno', 0)}", node


def names_bound():
    """Every name that a file binds, with where it stands."""
    for where, node in nodes(ast.FunctionDef, ast.ClassDef, ast.arg, ast.Name, ast.Attribute):
        if isinstance(node, (ast.FunctionDef, ast.ClassDef)):
            yield where, node.name
        elif isinstance(node, ast.arg):
            yield where, node.arg
        elif isinstance(node.ctx, ast.Store):
            yield where, node.id if isinstance(node, ast.Name) else node.attr


def own_methods():
    return {part.name for where, node in nodes(ast.ClassDef) for part in node.body if isinstance(part, ast.FunctionDef)}


def own_values():
    return {node.attr for where, node in nodes(ast.Attribute) if isinstance(node.ctx, ast.Store)}


class Files(unittest.TestCase):
    def test_nothing_but_plainly_named_python_files(self):
        found = [path for path in PACKAGE.rglob("*") if "__pycache__" not in path.parts and path.is_file()]
        self.assertIn(PACKAGE / "__init__.py", found)
        for path in found:
            self.assertRegex(path.name, r"^([a-z][a-z0-9_]*|__init__|__main__)\.py$")

    def test_signs_and_sizes(self):
        for path in files():
            text = path.read_bytes().decode("ascii")
            self.assertRegex(text, r"\A[ -~\n]*\Z")
            self.assertLessEqual(text.count("\n"), 400)
            self.assertLessEqual(max(len(line) for line in text.split("\n")), 120)
        for where, node in nodes(ast.FunctionDef):
            self.assertLessEqual(node.end_lineno - node.lineno + 1, 40, where)

    def test_words_that_stand_nowhere(self):
        for path in files():
            text = path.read_text(encoding="ascii")
            self.assertEqual(sorted(set(re.findall(r"\w+", text)) & set(WORDS)), [], path.name)
            self.assertNotRegex(text, r"dataclass|overload|contextmanager")

    def test_the_top_of_a_file(self):
        plain = (ast.Expr, ast.ImportFrom, ast.FunctionDef, ast.ClassDef, ast.Assign)
        for path, tree in trees():
            self.assertTrue(ast.get_docstring(tree), path.name)
            bound = [node.name for node in tree.body if isinstance(node, (ast.FunctionDef, ast.ClassDef))]
            bound = bound + [node.targets[0].id for node in tree.body if isinstance(node, ast.Assign)]
            self.assertEqual(len(bound), len(set(bound)), path.name)
            for node in tree.body:
                self.assertIsInstance(node, plain, path.name)
                if isinstance(node, ast.Assign):
                    ast.literal_eval(node.value)

    def test_imports(self):
        for where, node in nodes(ast.Import, ast.ImportFrom):
            self.assertIsInstance(node, ast.ImportFrom, where)
            self.assertEqual(node.level, 0, where)
            self.assertEqual(node.module.split(".")[0], "twostrands", where)


class Forms(unittest.TestCase):
    def test_statements_and_expressions(self):
        for where, node in nodes(ast.AST):
            self.assertIn(type(node).__name__, NODES, where)

    def test_functions_and_classes(self):
        for where, node in nodes(ast.FunctionDef):
            self.assertEqual(node.decorator_list, [], where)
            arguments = node.args
            self.assertFalse(arguments.vararg or arguments.kwarg or arguments.kwonlyargs or arguments.posonlyargs)
        for where, node in nodes(ast.ClassDef):
            self.assertEqual(node.decorator_list, [], where)
            self.assertLessEqual(len(node.bases), 1, where)
            for part in node.body:
                self.assertIsInstance(part, (ast.FunctionDef, ast.Expr), where)

    def test_assignments_loops_and_comprehensions(self):
        for where, node in nodes(ast.Assign):
            self.assertEqual(len(node.targets), 1, where)
            self.assertNotIsInstance(node.targets[0], (ast.Tuple, ast.List), where)
        for where, node in nodes(ast.For, ast.While):
            self.assertEqual(node.orelse, [], where)
        for where, node in nodes(ast.ListComp):
            self.assertEqual(len(node.generators), 1, where)
            self.assertLessEqual(len(node.generators[0].ifs), 1, where)
        for where, node in nodes(ast.Constant):
            self.assertIsInstance(node.value, (int, str, type(None)), where)

    def test_what_is_walked_is_walked_at_once(self):
        for path, tree in trees():
            good = [node.iter for node in ast.walk(tree) if isinstance(node, (ast.For, ast.comprehension))]
            for node in ast.walk(tree):
                if isinstance(node, ast.Call) and isinstance(node.func, ast.Name) and node.func.id in WALKERS:
                    good.extend(node.args)
            for node in ast.walk(tree):
                if isinstance(node, ast.Call) and isinstance(node.func, ast.Name) and node.func.id in WALKED:
                    self.assertTrue(any(node is one for one in good), f"{path.name}:{node.lineno}")

    def test_errors(self):
        for where, node in nodes(ast.ExceptHandler):
            self.assertIsNotNone(node.type, where)
            self.assertNotIn(ast.unparse(node.type), ("Exception", "TypeError"), where)


class Names(unittest.TestCase):
    def test_plain_names(self):
        for where, name in names_bound():
            if name not in UNDERSCORED:
                self.assertRegex(name, r"^[A-Za-z][A-Za-z0-9_]*$", where)
            self.assertNotIn(name, NEVER, where)

    def test_no_name_of_pythons_own_is_given_another_meaning(self):
        for where, node in nodes(ast.FunctionDef, ast.ClassDef, ast.arg, ast.Name):
            if isinstance(node, ast.Name) and isinstance(node.ctx, ast.Load):
                continue
            name = getattr(node, "name", getattr(node, "arg", getattr(node, "id", None)))
            if name not in UNDERSCORED:
                self.assertNotIn(name, dir(builtins), where)

    def test_names_of_pythons_own_that_are_used(self):
        bound = {name for where, name in names_bound()}
        for where, node in nodes(ast.Name):
            if node.id not in bound and node.id in dir(builtins):
                self.assertIn(node.id, BUILT_IN, where)

    def test_methods_and_values(self):
        methods = own_methods()
        values = own_values()
        self.assertEqual(methods & values, set())
        for name in values:
            self.assertNotIn(name, PYTHONS_OWN)
        for name in methods - set(UNDERSCORED):
            self.assertNotIn(name, PYTHONS_OWN)
        for where, node in nodes(ast.Attribute):
            self.assertIn(node.attr, methods | values | set(METHODS), where)


if __name__ == "__main__":
    unittest.main()
