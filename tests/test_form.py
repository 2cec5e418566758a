"""The form of the package: what LANGUAGE.md asks for and a test can see, and no clock, chance or files."""

import ast
import builtins
import io
import pathlib
import re
import tokenize
import unittest
import warnings

FOLDER = pathlib.Path(__file__).resolve().parent.parent / "oddcrown"
LIBRARY = {"math": {"gcd", "lcm", "isqrt", "comb", "perm", "factorial"},
           "heapq": {"heappush", "heappop", "heapify", "heapreplace", "heappushpop"},
           "itertools": {"product", "combinations", "permutations", "chain", "accumulate", "pairwise", "islice",
                         "zip_longest"},
           "collections": {"defaultdict", "deque"}}
BARRED_WORDS = {"register", "mro", "elements", "open", "input", "law", "version_info", "add_note", "type", "typing",
                "typing_extensions", "enum", "Enum", "IntEnum", "StrEnum", "Flag", "IntFlag", "Generic", "Protocol",
                "ABC", "ABCMeta", "namedtuple", "NamedTuple", "TypedDict", "TYPE_CHECKING", "abstractmethod", "sys",
                "os", "exec", "eval", "vars", "id", "help", "exit", "quit", "super", "globals", "locals", "dir"}
# What is walked on the spot, and the calls that may walk it (rule L23).
WALKED = {"range", "zip", "enumerate", "reversed"}
WALKED_METHODS = {"items", "keys", "values"}
WALKERS = {"list", "tuple", "dict", "sorted", "sum", "any", "all", "enumerate", "zip", "min", "max"}
BARRED_NAMES = {"open", "input", "print", "eval", "exec", "compile", "globals", "locals", "vars", "float", "id", "hash",
                "chr", "round"}


def files():
    return sorted(FOLDER.rglob("*.py"))


def is_walked(node):
    """Whether the node is a call of something that is walked on the spot, such as range(..)."""
    if not isinstance(node, ast.Call):
        return False
    if isinstance(node.func, ast.Name):
        return node.func.id in WALKED
    return isinstance(node.func, ast.Attribute) and node.func.attr in WALKED_METHODS


def walks(node, part):
    """Whether the node walks this part of it on the spot."""
    if isinstance(node, (ast.For, ast.comprehension)):
        return node.iter is part
    if isinstance(node, ast.Call) and isinstance(node.func, ast.Name):
        first = node.args[:1] if node.func.id != "zip" else node.args
        return node.func.id in WALKERS and any(part is told for told in first)
    return False


def nodes():
    for path in files():
        for node in ast.walk(ast.parse(path.read_text())):
            yield path.name, node


class FormTest(unittest.TestCase):
    def test_the_folder_holds_files_of_the_program_alone(self):
        found = [path for path in FOLDER.rglob("*") if "__pycache__" not in path.parts]
        self.assertEqual(sorted(found), files())
        self.assertIn(FOLDER / "__init__.py", files())

    def test_sizes_and_characters(self):
        for path in files():
            text = path.read_text(encoding="ascii")
            self.assertLessEqual(len(text.splitlines()), 399, path)
            for number, line in enumerate(text.split("\n"), 1):
                self.assertLessEqual(len(line), 120, (path, number))
                self.assertTrue(line.isprintable(), (path, number))

    def test_sizes_of_functions(self):
        for name, node in nodes():
            if isinstance(node, ast.FunctionDef):
                self.assertLessEqual(node.end_lineno - node.lineno + 1, 40, (name, node.name))

    def test_imports_come_from_the_package_and_the_told_library_alone(self):
        for name, node in nodes():
            self.assertNotIsInstance(node, ast.Import, name)
            if isinstance(node, ast.ImportFrom):
                self.assertEqual(node.level, 0, name)
                imported = {alias.name for alias in node.names}
                if node.module.split(".")[0] == "oddcrown":
                    defined = ast.parse((FOLDER.parent / (node.module.replace(".", "/") + ".py")).read_text()).body
                    known = {part.name for part in defined if isinstance(part, (ast.FunctionDef, ast.ClassDef))}
                    known |= {part.targets[0].id for part in defined if isinstance(part, ast.Assign)}
                    self.assertLessEqual(imported, known, name)
                else:
                    self.assertLessEqual(imported, LIBRARY[node.module], name)

    def test_no_name_of_an_import_or_a_builtin_means_something_else(self):
        for path in files():
            tree = ast.parse(path.read_text())
            imported = {alias.name for part in tree.body if isinstance(part, ast.ImportFrom) for alias in part.names}
            for node in ast.walk(tree):
                bound = None
                if isinstance(node, ast.Name) and not isinstance(node.ctx, ast.Load):
                    bound = node.id
                elif isinstance(node, ast.arg):
                    bound = node.arg
                elif isinstance(node, (ast.FunctionDef, ast.ClassDef)) and node.name != "__init__":
                    bound = node.name
                self.assertNotIn(bound, imported, (path.name, bound))
                # While doctest runs, it makes the sign _ a builtin.
                self.assertFalse(bound not in (None, "_") and hasattr(builtins, bound), (path.name, bound))

    def test_no_names_that_reach_out_of_the_program(self):
        for name, node in nodes():
            if isinstance(node, ast.Name):
                self.assertNotIn(node.id, BARRED_NAMES, (name, node.lineno))

    def test_no_words_that_are_barred(self):
        for path in files():
            for part in tokenize.generate_tokens(io.StringIO(path.read_text()).readline):
                if part.type == tokenize.NAME:
                    self.assertNotIn(part.string, BARRED_WORDS, (path.name, part.start))
                if part.type == tokenize.STRING and not part.string.startswith('"""'):
                    self.assertNotIn("%", part.string, (path.name, part.start))
                    self.assertFalse(set(re.findall(r"\w+", part.string)) & BARRED_WORDS, (path.name, part.start))

    def test_methods_have_no_names_of_methods_of_builtin_values(self):
        taken = {name for kind in (str, list, dict, set, bytes, int) for name in dir(kind)} - {"__init__", "__len__"}
        for name, node in nodes():
            if isinstance(node, ast.ClassDef):
                for part in node.body:
                    if isinstance(part, ast.FunctionDef):
                        self.assertNotIn(part.name, taken, (name, part.lineno))

    def test_what_is_walked_is_walked_on_the_spot(self):
        walked = 0
        for name, node in nodes():
            for part in ast.iter_child_nodes(node):
                if is_walked(part):
                    walked += 1
                    self.assertTrue(walks(node, part), (name, part.lineno))
        self.assertGreater(walked, 40)

    def test_a_range_that_is_handed_on_is_found(self):
        for text in ["bits_of(range(len(game)))", "every = range(3)", "[*zip(game, game)]", "return_to(told.items())"]:
            found = [(node, part) for node in ast.walk(ast.parse(text)) for part in ast.iter_child_nodes(node)
                     if is_walked(part)]
            self.assertEqual([walks(node, part) for node, part in found], [False], text)

    def test_no_floats_and_no_division(self):
        for name, node in nodes():
            self.assertNotIsInstance(node, ast.Div, name)
            if isinstance(node, ast.Constant):
                self.assertNotIsInstance(node.value, float, name)

    def test_python_warns_of_no_line(self):
        with warnings.catch_warnings():
            warnings.simplefilter("error")
            for path in files():
                compile(path.read_text(), str(path), "exec")


if __name__ == "__main__":
    unittest.main()
