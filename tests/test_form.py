"""The form of the package: what of point 1 and of ../shared/LANGUAGE.md can be counted."""

import ast
import builtins
import pathlib
import unittest
import warnings

PACKAGE = pathlib.Path(__file__).resolve().parent.parent / "threadslide"
# The outside names that LANGUAGE.md (L2) lets in: none tells of a clock, of chance or of a file.
LIBRARY = {
    "__future__": {"annotations"},
    "collections": {"defaultdict", "deque"},
    "heapq": {"heappush", "heappop", "heapify", "heapreplace", "heappushpop"},
    "itertools": {"product", "combinations", "permutations", "chain", "accumulate", "pairwise", "islice",
                  "zip_longest"},
    "math": {"gcd", "lcm", "isqrt", "comb", "perm", "factorial"},
}
# The builtins that LANGUAGE.md (L8) lets in.
BUILTINS = set("""
    len range enumerate zip min max sum abs sorted reversed int str bool bytes list tuple dict set frozenset isinstance
    ord repr any all divmod pow getattr hasattr setattr iter next map type super property staticmethod classmethod
    Exception ValueError TypeError KeyError IndexError LookupError ZeroDivisionError ArithmeticError OverflowError
    RuntimeError NotImplementedError AttributeError StopIteration NotImplemented
""".split())


def package_files():
    return [path for path in sorted(PACKAGE.iterdir()) if path.name != "__pycache__"]


def package_texts():
    return {path.name: path.read_bytes().decode("ascii") for path in package_files()}


class FormTest(unittest.TestCase):
    def test_the_package_is_one_folder_of_python_files(self):
        names = [path.name for path in package_files()]
        self.assertIn("__init__.py", names)
        for name in names:
            with self.subTest(name):
                self.assertRegex(name, r"\A[a-z0-9_]+\.py\Z")

    def test_characters_and_sizes(self):
        for name, text in package_texts().items():
            lines = text.split("\n")
            self.assertLessEqual(len(lines), 399, name)
            for line in lines:
                self.assertLessEqual(len(line), 120, f"{name}: {line}")
                self.assertTrue(all(" " <= sign <= "~" for sign in line), f"{name}: {line}")

    def test_functions_have_at_most_forty_lines(self):
        for name, text in package_texts().items():
            for node in ast.walk(ast.parse(text)):
                if isinstance(node, ast.FunctionDef):
                    self.assertLessEqual(node.end_lineno - node.lineno + 1, 40, f"{name}: {node.name}")

    def test_python_gives_no_warning(self):
        for name, text in package_texts().items():
            with warnings.catch_warnings():
                warnings.simplefilter("error")
                compile(text, name, "exec")

    def test_imports_bring_no_clock_no_chance_and_no_file(self):
        for name, text in package_texts().items():
            for node in ast.walk(ast.parse(text)):
                self.assertNotIsInstance(node, ast.Import, name)
                if isinstance(node, ast.ImportFrom):
                    self.assert_import_is_let_in(name, node)

    def assert_import_is_let_in(self, name, node):
        self.assertEqual(node.level, 0, name)
        if node.module.split(".")[0] == "threadslide":
            return
        self.assertIn(node.module, LIBRARY, name)
        for brought in node.names:
            self.assertIn(brought.name, LIBRARY[node.module], name)

    def test_no_other_builtin_is_named(self):
        for name, text in package_texts().items():
            for node in ast.walk(ast.parse(text)):
                if isinstance(node, ast.Name) and hasattr(builtins, node.id):
                    self.assertIn(node.id, BUILTINS, name)

    def test_no_parameter_and_no_variable_hides_a_builtin_or_an_import(self):
        for name, text in package_texts().items():
            nodes = list(ast.walk(ast.parse(text)))
            brought = {alias.name for node in nodes if isinstance(node, ast.ImportFrom) for alias in node.names}
            bound = {node.arg for node in nodes if isinstance(node, ast.arg)}
            bound |= {node.id for node in nodes if isinstance(node, ast.Name) and isinstance(node.ctx, ast.Store)}
            self.assertEqual(bound & (brought | set(dir(builtins))), set(), name)


if __name__ == "__main__":
    unittest.main()
