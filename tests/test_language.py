"""The rules of the Python subset that a look at the files can tell (the numbers are those of its document)."""

import ast
import builtins
import pathlib
import re
import unittest

FOLDER = pathlib.Path(__file__).resolve().parent.parent / "alwaysagree"
LIBRARY = {
    "heapq": ["heappush", "heappop", "heapify", "heapreplace", "heappushpop"],
    "math": ["gcd", "lcm", "isqrt", "comb", "perm", "factorial"],
    "itertools": ["product", "combinations", "permutations", "chain", "accumulate", "pairwise", "islice", "zip_longest"],
    "collections": ["defaultdict"],
}
BUILTINS = """
    len range enumerate zip min max sum abs sorted reversed int str bool bytes list tuple dict set isinstance ord repr
    any all divmod pow getattr hasattr setattr iter next map super property staticmethod classmethod
    Exception ValueError TypeError KeyError IndexError LookupError ZeroDivisionError ArithmeticError OverflowError
    RuntimeError NotImplementedError AttributeError StopIteration NotImplemented
""".split()
METHODS = """
    append clear copy count endswith extend find get index insert isalnum isalpha isdigit islower isspace isupper items
    join keys ljust lower lstrip partition pop remove replace reverse rfind rjust rpartition rsplit rstrip setdefault
    split splitlines startswith strip update upper values zfill bit_length title capitalize swapcase casefold center
    expandtabs removeprefix removesuffix rindex isascii isdecimal isnumeric istitle isidentifier isprintable add discard
    sort encode decode hex
""".split()
BARRED_WORDS = """
    type typing typing_extensions enum Enum IntEnum StrEnum Flag IntFlag Generic Protocol ABC ABCMeta namedtuple
    NamedTuple TypedDict TYPE_CHECKING abstractmethod
""".split()
BARRED_NODES = (
    ast.Global, ast.AsyncFunctionDef, ast.AsyncFor, ast.AsyncWith, ast.Await, ast.Import, ast.Div, ast.MatMult,
    ast.TryStar, ast.MatchMapping,
)
LIST_TAKERS = ("any", "all", "min", "max", "sum", "sorted")
# What these give is gone through on the spot, by a loop or by one of the functions below.
ITERATORS = ("range", "zip", "enumerate", "reversed")
TAKERS = ("list", "tuple", "dict", "sorted", "sum", "any", "all", "enumerate", "zip", "min", "max")


def files():
    return sorted(FOLDER.rglob("*.py"))


def tree(path):
    return ast.parse(path.read_text("ascii"))


def nodes(path, *kinds):
    return [node for node in ast.walk(tree(path)) if isinstance(node, kinds)]


def defined(path):
    """The names that are bound at module level of a file, imports left out."""
    names = []
    for node in tree(path).body:
        if isinstance(node, (ast.FunctionDef, ast.ClassDef)):
            names.append(node.name)
        elif isinstance(node, ast.Assign):
            names.extend([target.id for target in node.targets])
    return names


def imported(path):
    """The files of the package from which a file imports."""
    return [name.module for name in nodes(path, ast.ImportFrom) if name.module.startswith("alwaysagree.")]


def file_of(module):
    return FOLDER.parent / (module.replace(".", "/") + ".py")


def docstrings(path):
    kinds = (ast.Module, ast.ClassDef, ast.FunctionDef)
    return [node.body[0].value for node in ast.walk(tree(path)) if isinstance(node, kinds) and ast.get_docstring(node)]


class TestFiles(unittest.TestCase):
    def test_the_folder_contains_plain_python_files_alone(self):
        self.assertIn(FOLDER / "__init__.py", files())
        self.assertLessEqual(len(files()), 100)
        for path in FOLDER.rglob("*"):
            if "__pycache__" not in path.parts:
                self.assertRegex(path.name, r"^(__init__|__main__|[a-z][a-z0-9_]*)\.py$", "L1, L14")
                self.assertNotRegex(path.name, r"^(law_|test|site|conftest|sitecustomize|usercustomize)", "L14")
                self.assertNotIn(path.stem, dir(builtins), "L14")

    def test_sizes_and_signs(self):
        for path in files():
            lines = path.read_bytes().split(b"\n")
            self.assertLess(len(lines), 400, "L10")
            for line in lines:
                self.assertLessEqual(len(line), 120, "L10")
                self.assertTrue(all(32 <= sign <= 126 for sign in line), "L10, L14")
            for node in nodes(path, ast.FunctionDef):
                self.assertLessEqual(node.end_lineno - node.lineno + 1, 40, "L10")

    def test_barred_words(self):
        for path in files():
            text = path.read_text("ascii")
            self.assertNotRegex(text, "_wall|_WallAttr", "L12")
            self.assertNotRegex(text, r"\(type\)|Meta|metaclass=", "L17")
            for node in nodes(path, ast.Name, ast.arg, ast.Attribute, ast.FunctionDef, ast.ClassDef):
                for field in ("id", "arg", "attr", "name"):
                    self.assertNotIn(getattr(node, field, None), BARRED_WORDS, "L17")


class TestImports(unittest.TestCase):
    def test_they_name_the_very_file_that_defines_the_name(self):
        for path in files():
            for node in nodes(path, ast.ImportFrom):
                self.assertEqual(node.level, 0, "L2")
                for alias in node.names:
                    self.assertIsNone(alias.asname, "L2")
                    known = LIBRARY.get(node.module) or defined(file_of(node.module))
                    self.assertIn(alias.name, known, "L2, L16")

    def test_no_two_files_import_from_each_other(self):
        def above(module, seen):
            self.assertNotIn(module, seen, "L16")
            for other in imported(file_of(module)):
                above(other, seen + [module])
        for path in files():
            if path.stem != "__init__":
                above(f"alwaysagree.{path.stem}", [])

    def test_each_name_is_bound_once_and_no_import_is_idle(self):
        for path in files():
            taken = [alias.name for node in nodes(path, ast.ImportFrom) for alias in node.names]
            names = taken + defined(path)
            self.assertEqual(len(names), len(set(names)), "L15")
            used = [node.id for node in nodes(path, ast.Name)]
            self.assertEqual([name for name in taken if name not in used], [], path)
            bound = [node.id for node in nodes(path, ast.Name) if not isinstance(node.ctx, ast.Load)]
            bound = bound + [node.arg for node in nodes(path, ast.arg)]
            for name in bound:
                self.assertNotIn(name, dir(builtins), "L15")
                self.assertNotIn(name, taken, "L15")


class TestCode(unittest.TestCase):
    def test_kinds_of_statements_and_expressions(self):
        for path in files():
            self.assertEqual(nodes(path, *BARRED_NODES), [], "L2, L6, L7")
            for node in nodes(path, ast.FunctionDef, ast.ClassDef):
                for mark in node.decorator_list:
                    self.assertRegex(ast.unparse(mark), r"^(property|\w+\.setter|staticmethod|classmethod)$", "L4, L5")
            for node in nodes(path, ast.Call):
                if isinstance(node.func, ast.Name) and node.func.id in LIST_TAKERS:
                    self.assertFalse([part for part in node.args if isinstance(part, ast.GeneratorExp)], "L7")

    def test_what_is_iterated_at_once(self):
        for path in files():
            taken = [node.iter for node in nodes(path, ast.For, ast.comprehension)]
            for node in nodes(path, ast.Call):
                if isinstance(node.func, ast.Name) and node.func.id in TAKERS:
                    taken += node.args[:1]
            for node in nodes(path, ast.Call):
                if isinstance(node.func, ast.Name) and node.func.id in ITERATORS:
                    place = (node.lineno, node.col_offset)
                    self.assertIn(place, [(one.lineno, one.col_offset) for one in taken], f"L23, {path.name}")

    def test_the_ends_of_with_statements(self):
        name, attribute = r"[a-z]\w*", r"[a-z]\w*(\.[a-z_]\w*)+"
        for path in files():
            for node in nodes(path, ast.FunctionDef):
                if node.name == "__exit__":
                    self.assertEqual([one.arg for one in node.args.args], ["self", "kind", "value", "trace"], "L6")
                    for line in ast.unparse(node).split("\n")[1:]:
                        self.assertRegex(line.strip(), f"^(if kind is not None:|{name} = self\\.\\w+|{attribute} = {attribute})$", "L6")

    def test_classes_with_operators(self):
        for path in files():
            for node in nodes(path, ast.ClassDef):
                methods = {one.name: one for one in node.body if isinstance(one, ast.FunctionDef)}
                if "__getitem__" in methods:
                    self.assertRegex(ast.unparse(methods["__iter__"].body[0]), r"^raise TypeError\(", "L5")
                if "__len__" in methods:
                    self.assertRegex(ast.unparse(methods["__len__"].body[-1]), r"^return len\(", "L28")
                self.assertNotIn("keys", methods, "L5")

    def test_strings(self):
        for path in files():
            texts = docstrings(path)
            for node in nodes(path, ast.Constant):
                self.assertNotIsInstance(node.value, (float, complex), "L7")
                if isinstance(node.value, str) and node.value not in [text.value for text in texts]:
                    self.assertNotIn("%", node.value, "L27")
                    self.assertFalse(set(re.findall(r"\w+", node.value)) & set(BARRED_WORDS), "L17")

    def test_builtins(self):
        for path in files():
            for node in nodes(path, ast.Name):
                if node.id in dir(builtins):
                    self.assertIn(node.id, BUILTINS, f"L8, {path.name}:{node.lineno}")

    def test_methods(self):
        own = [node.name for path in files() for node in nodes(path, ast.FunctionDef)] + ["__init__"]
        for path in files():
            for node in nodes(path, ast.Call):
                if isinstance(node.func, ast.Attribute):
                    self.assertIn(node.func.attr, METHODS + own, f"L25, {path.name}:{node.lineno}")


if __name__ == "__main__":
    unittest.main()
