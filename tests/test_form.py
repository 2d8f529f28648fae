"""The form of the program: what its rules say that can be read off its files."""

import ast
import builtins
import pathlib
import re
import unittest

from tests.cases import INTERFACE

PACKAGE = pathlib.Path(__file__).resolve().parent.parent / "chainjobs"

BUILT_IN = set("""len range enumerate zip min max sum abs sorted reversed int str bool list tuple
    dict set frozenset isinstance ord repr any all divmod Exception ValueError TypeError KeyError
    IndexError LookupError ZeroDivisionError ArithmeticError OverflowError RuntimeError
    NotImplementedError AttributeError StopIteration""".split())

METHODS = set("""append clear copy count endswith extend find get index insert isalnum isalpha
    isdigit islower isspace isupper items join keys ljust lower lstrip partition pop remove replace
    reverse rfind rjust rpartition rsplit rstrip setdefault split splitlines startswith strip
    update upper values zfill bit_length""".split())

WORDS_NOWHERE = re.compile(r"\b(type|typing|typing_extensions|enum|Enum|IntEnum|StrEnum|Flag"
                           r"|IntFlag|Generic|Protocol|ABC|ABCMeta|namedtuple|NamedTuple|TypedDict"
                           r"|TYPE_CHECKING|abstractmethod)\b|dataclass|overload|contextmanager")

NAMES_UNUSED = set("""register mro elements open input version_info with_traceback add_note
    attrgetter breakpoint builtins compile copyright credits delattr dir eval exec exit gc getattr
    globals hasattr help id importlib license locals methodcaller os quit setattr super type vars
    sys""".split())

NODES_RULED_OUT = (ast.With, ast.Match, ast.Delete, ast.Global, ast.Nonlocal, ast.Assert,
                   ast.Yield, ast.YieldFrom, ast.AsyncFunctionDef, ast.Await, ast.Import,
                   ast.GeneratorExp, ast.SetComp, ast.DictComp, ast.NamedExpr, ast.Starred,
                   ast.Div, ast.MatMult)

TOP_NODES = (ast.ImportFrom, ast.FunctionDef, ast.ClassDef, ast.Assign)


def package_files():
    return [path for path in sorted(PACKAGE.rglob("*")) if "__pycache__" not in path.parts]


def package_trees():
    return [(path, ast.parse(path.read_text("ascii"))) for path in package_files()]


def nodes_of(*kinds):
    for path, tree in package_trees():
        for node in ast.walk(tree):
            if isinstance(node, kinds):
                yield path, node


class Form(unittest.TestCase):
    def test_the_package_holds_plainly_named_files_alone(self):
        names = [path.name for path in package_files()]
        self.assertIn("__init__.py", names)
        self.assertIn("orders.py", names)
        for name in names:
            self.assertRegex(name, r"\A([a-z][a-z0-9_]*|__init__)\.py\Z")
            self.assertNotRegex(name, r"\Atest")

    def test_signs_and_sizes(self):
        for path in package_files():
            text = path.read_bytes().decode("ascii")
            self.assertRegex(text, r"\A[ -~\n]*\Z", path)
            self.assertLessEqual(len(text.splitlines()), 399, path)
            self.assertLessEqual(max(map(len, text.splitlines()), default=0), 120, path)

    def test_size_of_the_functions(self):
        for path, node in nodes_of(ast.FunctionDef):
            self.assertLessEqual(node.end_lineno - node.lineno + 1, 40, (path, node.name))

    def test_the_top_of_a_module(self):
        for path, tree in package_trees():
            self.assertIsNotNone(ast.get_docstring(tree), path)
            for node in tree.body[1:]:
                self.assertIsInstance(node, TOP_NODES, path)
                if isinstance(node, ast.Assign):
                    ast.literal_eval(node.value)

    def test_imports_are_the_packages_own(self):
        for path, node in nodes_of(ast.ImportFrom):
            self.assertEqual(node.level, 0, path)
            self.assertRegex(node.module, r"\A(chainjobs\.[a-z]|__future__\Z)", path)
            self.assertNotIn("*", [alias.name for alias in node.names], path)

    def test_what_is_ruled_out_is_not_there(self):
        for path, node in nodes_of(*NODES_RULED_OUT):
            self.fail((path, node))
        for path, node in nodes_of(ast.For, ast.While):
            self.assertEqual(node.orelse, [], (path, node.lineno))
        for path, node in nodes_of(ast.Try):
            self.assertEqual(node.finalbody, [], (path, node.lineno))
        for path, node in nodes_of(ast.Assign):
            self.assertEqual(len(node.targets), 1, (path, node.lineno))
        for path, node in nodes_of(ast.ListComp):
            self.assertEqual(len(node.generators), 1, (path, node.lineno))
            self.assertLessEqual(len(node.generators[0].ifs), 1, (path, node.lineno))
        for path, node in nodes_of(ast.Constant):
            self.assertIn(type(node.value), (int, str, bool, type(None)), (path, node.lineno))

    def test_functions_have_plain_parameters(self):
        for path, node in nodes_of(ast.FunctionDef, ast.Lambda):
            there = node.args
            self.assertEqual((there.vararg, there.kwarg, there.kwonlyargs, there.posonlyargs),
                             (None, None, [], []), (path, node.lineno))
        for path, node in nodes_of(ast.FunctionDef, ast.ClassDef):
            self.assertEqual(node.decorator_list, [], (path, node.name))

    def test_names(self):
        for path, tree in package_trees():
            bound = {node.name for node in tree.body
                     if isinstance(node, (ast.FunctionDef, ast.ClassDef))}
            for node in ast.walk(tree):
                if isinstance(node, ast.ImportFrom):
                    bound |= {alias.asname or alias.name for alias in node.names}
                if isinstance(node, ast.arg):
                    bound.add(node.arg)
                if isinstance(node, ast.Name) and isinstance(node.ctx, ast.Store):
                    bound.add(node.id)
            used = {node.id for node in ast.walk(tree) if isinstance(node, ast.Name)}
            self.assertLessEqual(used, bound | BUILT_IN, path)
            self.assertEqual(bound & (set(dir(builtins)) | NAMES_UNUSED), set(), path)
            for name in bound:
                self.assertRegex(name, r"\A[A-Za-z][A-Za-z0-9_]*\Z", path)

    def test_methods(self):
        for path, node in nodes_of(ast.Attribute):
            self.assertIn(node.attr, METHODS, (path, node.lineno))

    def test_words_that_stand_nowhere(self):
        for path in package_files():
            self.assertNotRegex(path.read_text("ascii"), WORDS_NOWHERE, path)

    def test_interface_functions_are_written_in_their_file_alone(self):
        for name in INTERFACE:
            places = [path.name for path, tree in package_trees() for node in tree.body
                      if isinstance(node, ast.FunctionDef) and node.name == name]
            self.assertEqual(places, ["orders.py"], name)


if __name__ == "__main__":
    unittest.main()
