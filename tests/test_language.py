"""Whether the package keeps to the plain part of Python that it's written in, as far as its form shows it."""

import ast
import builtins
import os
import re
import unittest

PACKAGE = os.path.join(os.path.dirname(os.path.dirname(os.path.abspath(__file__))), "wheelwriters")

BUILT_IN = set("""len range enumerate zip min max sum abs sorted reversed int str bool list tuple dict set frozenset
    isinstance ord repr any all divmod Exception ValueError TypeError KeyError IndexError LookupError ZeroDivisionError
    ArithmeticError OverflowError RuntimeError NotImplementedError AttributeError StopIteration""".split())

PYTHONS_METHODS = set("""append clear copy count endswith extend find get index insert isalnum isalpha isdigit islower
    isspace isupper items join keys ljust lower lstrip partition pop remove replace reverse rfind rjust rpartition
    rsplit rstrip setdefault split splitlines startswith strip update upper values zfill bit_length""".split())

UNUSED_WORDS = re.compile(r"\b(type|typing|typing_extensions|enum|Enum|IntEnum|StrEnum|Flag|IntFlag|Generic|Protocol"
                          r"|ABC|ABCMeta|namedtuple|NamedTuple|TypedDict|TYPE_CHECKING|abstractmethod)\b"
                          r"|dataclass|overload|contextmanager")

UNUSED_FORMS = (
    ast.With, ast.Delete, ast.Global, ast.Nonlocal, ast.Assert, ast.Yield, ast.YieldFrom, ast.AsyncFunctionDef,
    ast.AsyncFor, ast.AsyncWith, ast.Await, ast.Match, ast.GeneratorExp, ast.SetComp, ast.DictComp, ast.NamedExpr,
    ast.Starred, ast.Div, ast.MatMult, ast.Import, ast.AnnAssign,
)


def package_files():
    return sorted(name for name in os.listdir(PACKAGE) if name != "__pycache__")


def text_of(name):
    with open(os.path.join(PACKAGE, name), encoding="utf-8", newline="") as file:
        return file.read()


def each_node(*kinds):
    """Each node of these kinds in the package, and where it is."""
    for name in package_files():
        for node in ast.walk(ast.parse(text_of(name))):
            if isinstance(node, kinds):
                yield node, f"{name}, line {getattr(node, 'lineno', '?')}"


class Language(unittest.TestCase):
    def test_files(self):
        self.assertIn("__init__.py", package_files())
        self.assertIn("bench.py", package_files())
        for name in package_files():
            self.assertRegex(name, r"^[a-z0-9_]+\.py$")

    def test_sizes_and_signs(self):
        for name in package_files():
            text = text_of(name)
            with self.subTest(file=name):
                self.assertRegex(text, r"^[ -~\n]*$")
                self.assertLessEqual(len(text.splitlines()), 400)
                self.assertLessEqual(max(len(line) for line in text.splitlines()), 120)
                self.assertIsNone(UNUSED_WORDS.search(text))
        for node, where in each_node(ast.FunctionDef):
            self.assertLessEqual(node.end_lineno - node.lineno + 1, 40, where)

    def test_imports_are_the_packages_own(self):
        for node, where in each_node(ast.ImportFrom):
            self.assertEqual(node.level, 0, where)
            self.assertRegex(node.module, r"^wheelwriters\.[a-z_]+$", where)
            self.assertEqual([alias.asname for alias in node.names], [None] * len(node.names), where)
            self.assertNotIn("*", [alias.name for alias in node.names], where)

    def test_forms_that_are_not_used(self):
        for node, where in each_node(*UNUSED_FORMS):
            self.fail(f"{where}: {ast.dump(node)}")
        for node, where in each_node(ast.For, ast.While):
            self.assertEqual(node.orelse, [], where)
        for node, where in each_node(ast.Try):
            self.assertEqual(node.finalbody, [], where)
        for node, where in each_node(ast.Assign):
            self.assertEqual(len(node.targets), 1, where)
        for node, where in each_node(ast.Constant):
            self.assertNotIsInstance(node.value, (float, bytes, complex), where)
        for node, where in each_node(ast.FunctionDef, ast.ClassDef):
            self.assertEqual(node.decorator_list, [], where)

    def test_plain_parameters(self):
        for node, where in each_node(ast.arguments):
            self.assertEqual((node.posonlyargs, node.kwonlyargs, node.vararg, node.kwarg), ([], [], None, None), where)

    def test_names(self):
        not_ours = set(dir(builtins)) - BUILT_IN
        for node, where in each_node(ast.Name):
            self.assertNotIn(node.id, not_ours, where)
            self.assertRegex(node.id, r"^[A-Za-z][A-Za-z0-9_]*$", where)
            if isinstance(node.ctx, ast.Store):
                self.assertNotIn(node.id, BUILT_IN, where)
        for node, where in each_node(ast.arg):
            self.assertNotIn(node.arg, dir(builtins), where)
            self.assertRegex(node.arg, r"^[A-Za-z][A-Za-z0-9_]*$", where)

    def test_methods(self):
        own = set()
        for node, where in each_node(ast.FunctionDef):
            own.add(node.name)
        for node, where in each_node(ast.Call):
            if isinstance(node.func, ast.Attribute):
                self.assertIn(node.func.attr, PYTHONS_METHODS | own, where)

    def test_no_local_is_called_like_a_class_or_an_import_of_its_file(self):
        for name in package_files():
            tree = ast.parse(text_of(name))
            taken = set()
            for node in tree.body:
                if isinstance(node, ast.ClassDef):
                    taken.add(node.name)
                if isinstance(node, ast.ImportFrom):
                    taken.update(alias.name for alias in node.names)
            for node in ast.walk(tree):
                if isinstance(node, ast.Name) and isinstance(node.ctx, ast.Store):
                    self.assertNotIn(node.id, taken, f"{name}, line {node.lineno}")
                if isinstance(node, ast.arg):
                    self.assertNotIn(node.arg, taken, f"{name}, line {node.lineno}")

    def test_no_name_is_a_method_and_a_value(self):
        methods = set()
        for node, where in each_node(ast.ClassDef):
            methods.update(inner.name for inner in node.body if isinstance(inner, ast.FunctionDef))
        for node, where in each_node(ast.Attribute):
            if isinstance(node.ctx, ast.Store):
                self.assertNotIn(node.attr, methods, where)
                self.assertNotIn(node.attr, dir(str) + dir(int) + dir(list) + dir(dict) + dir(bytes), where)

    def test_no_exponent_but_a_written_one(self):
        for node, where in each_node(ast.BinOp):
            if isinstance(node.op, ast.Pow):
                self.assertIsInstance(node.right, ast.Constant, where)

    def test_is_stands_beside_none_true_and_false(self):
        for node, where in each_node(ast.Compare):
            for operator, right in zip(node.ops, node.comparators):
                if isinstance(operator, (ast.Is, ast.IsNot)):
                    self.assertIsInstance(right, ast.Constant, where)

    def test_walked_at_once(self):
        walkers = ("zip", "enumerate", "reversed", "range")
        takers = ("list", "tuple", "sorted", "sum", "zip", "enumerate")
        walked = []
        for node, where in each_node(ast.For, ast.comprehension):
            walked.append(node.iter)
        for node, where in each_node(ast.Call):
            if isinstance(node.func, ast.Name) and node.func.id in takers:
                walked += node.args
        places = [(node.lineno, node.col_offset, ast.dump(node)) for node in walked]
        for node, where in each_node(ast.Call):
            if isinstance(node.func, ast.Name) and node.func.id in walkers:
                self.assertIn((node.lineno, node.col_offset, ast.dump(node)), places, where)

    def test_comprehensions_have_one_for_and_at_most_one_if(self):
        for node, where in each_node(ast.ListComp):
            self.assertEqual(len(node.generators), 1, where)
            self.assertLessEqual(len(node.generators[0].ifs), 1, where)

    def test_files_do_not_draw_from_one_another(self):
        draws = {}
        for name in package_files():
            found = [node.module for node in ast.walk(ast.parse(text_of(name))) if isinstance(node, ast.ImportFrom)]
            draws["wheelwriters." + name[:-3]] = found
        while draws:
            free = [name for name in draws if not any(module in draws for module in draws[name])]
            self.assertNotEqual(free, [], draws)
            draws = {name: draws[name] for name in draws if name not in free}


if __name__ == "__main__":
    unittest.main()
