"""The rules of the language that are plain to see: files, imports, module level, sizes and characters."""

import ast
import pathlib
import re
import unittest

PACKAGE = pathlib.Path(__file__).resolve().parent.parent / "keeproom"
FILES = sorted(path for path in PACKAGE.rglob("*") if "__pycache__" not in path.parts)
LIBRARY = {
    "heapq": {"heappush", "heappop", "heapify", "heapreplace", "heappushpop"},
    "math": {"gcd", "lcm", "isqrt", "comb", "perm", "factorial"},
    "itertools": {"product", "combinations", "permutations", "chain", "accumulate", "pairwise", "islice",
                  "zip_longest"},
    "collections": {"defaultdict"},
    "__future__": {"annotations"},
}
BARRED = {"open", "input", "eval", "exec", "print", "globals", "locals", "vars", "type", "id", "hash", "round",
          "float", "filter", "callable", "object", "memoryview", "bytearray", "compile", "dir", "chr"}
BARRED_WORDS = re.compile(
    r"\b(type|typing|enum|Enum|Flag|Generic|Protocol|ABC|namedtuple|NamedTuple|TypedDict|abstractmethod)\b"
    "|dataclass|overload|contextmanager|_wall|_WallAttr")
ALLOWED_AT_MODULE_LEVEL = (ast.ImportFrom, ast.FunctionDef, ast.ClassDef, ast.Assign, ast.AnnAssign)


def tree_of(path):
    return ast.parse(path.read_text(encoding="utf-8"))


def is_docstring(node):
    return isinstance(node, ast.Expr) and isinstance(node.value, ast.Constant) and isinstance(node.value.value, str)


class LanguageTest(unittest.TestCase):
    def test_the_folder_holds_plain_files_alone(self):
        self.assertIn(PACKAGE / "__init__.py", FILES)
        self.assertLessEqual(len(FILES), 100)
        for path in FILES:
            self.assertTrue(path.is_file(), path)
            self.assertRegex(path.name, r"\A[a-z0-9_]+\.py\Z")

    def test_sizes_and_characters(self):
        for path in FILES:
            text = path.read_text(encoding="utf-8")
            lines = text.split("\n")
            self.assertLessEqual(len(lines), 400, path)
            for number, line in enumerate(lines, 1):
                self.assertRegex(line, r"\A[ -~]{0,120}\Z", f"{path}:{number}")

    def test_functions_have_at_most_40_lines(self):
        for path in FILES:
            for node in ast.walk(tree_of(path)):
                if isinstance(node, ast.FunctionDef):
                    self.assertLessEqual(node.end_lineno - node.lineno + 1, 40, f"{path}: {node.name}")

    def test_module_level(self):
        for path in FILES:
            for node in tree_of(path).body:
                allowed = isinstance(node, ALLOWED_AT_MODULE_LEVEL) or is_docstring(node)
                self.assertTrue(allowed, f"{path}:{node.lineno}")

    def test_imports(self):
        for path in FILES:
            for node in ast.walk(tree_of(path)):
                self.assertNotIsInstance(node, ast.Import, path)
                if isinstance(node, ast.ImportFrom) and not node.module.startswith("keeproom."):
                    self.assertEqual(node.level, 0, path)
                    self.assertLessEqual({name.name for name in node.names}, LIBRARY[node.module], path)

    def test_no_floats_and_no_true_division(self):
        for path in FILES:
            for node in ast.walk(tree_of(path)):
                self.assertNotIsInstance(node, ast.Div, path)
                if isinstance(node, ast.Constant):
                    self.assertNotIsInstance(node.value, (float, complex), path)

    def test_words_that_are_not_used(self):
        for path in FILES:
            self.assertNotRegex(path.read_text(encoding="utf-8"), BARRED_WORDS, path)

    def test_strings(self):
        for path in FILES:
            for node in ast.walk(tree_of(path)):
                if isinstance(node, ast.Constant) and isinstance(node.value, str):
                    self.assertNotIn("%", node.value, f"{path}:{node.lineno}")

    def test_no_two_files_import_from_each_other(self):
        imports = {}
        for path in FILES:
            found = [node.module.split(".")[1] for node in tree_of(path).body
                     if isinstance(node, ast.ImportFrom) and node.module.startswith("keeproom.")]
            imports[path.stem] = set(found)
        # What imports nothing that is left is taken away, again and again; files in a circle would stay.
        while free := [name for name, found in imports.items() if not found & set(imports)]:
            for name in free:
                del imports[name]
        self.assertEqual(imports, {})

    def test_names_come_from_the_file_that_defines_them(self):
        for path in FILES:
            for node in tree_of(path).body:
                if isinstance(node, ast.ImportFrom) and node.module.startswith("keeproom."):
                    body = tree_of(PACKAGE / (node.module.split(".")[1] + ".py")).body
                    defined = {part.name for part in body if isinstance(part, (ast.FunctionDef, ast.ClassDef))}
                    defined |= {part.targets[0].id for part in body if isinstance(part, ast.Assign)}
                    self.assertLessEqual({name.name for name in node.names}, defined, path)

    def test_no_local_name_is_that_of_an_import_or_a_class(self):
        for path in FILES:
            tree = tree_of(path)
            taken = {name.name for node in tree.body if isinstance(node, ast.ImportFrom) for name in node.names}
            taken |= {node.name for node in tree.body if isinstance(node, ast.ClassDef)}
            for node in ast.walk(tree):
                if isinstance(node, ast.Name) and isinstance(node.ctx, ast.Store):
                    self.assertNotIn(node.id, taken, f"{path}:{node.lineno}")
                if isinstance(node, ast.arg):
                    self.assertNotIn(node.arg, taken, f"{path}:{node.lineno}")

    def test_names_that_are_not_used(self):
        for path in FILES:
            for node in ast.walk(tree_of(path)):
                if isinstance(node, ast.Name):
                    self.assertNotIn(node.id, BARRED, f"{path}:{node.lineno}")
                self.assertNotIsInstance(node, (ast.Global, ast.AsyncFunctionDef, ast.Await), path)


if __name__ == "__main__":
    unittest.main()
