"""The plainest rules of LANGUAGE.md, for every file of the package."""
import ast
import pathlib
import unittest

ROOT = pathlib.Path(__file__).resolve().parent.parent
PACKAGE = ROOT / "armwarrant"
LIBRARY = {
    "heapq": {"heappush", "heappop", "heapify", "heapreplace", "heappushpop"},
    "math": {"gcd", "lcm", "isqrt", "comb", "perm", "factorial"},
}
LETTERS = set("abcdefghijklmnopqrstuvwxyz0123456789_")


def paths():
    return [path for path in sorted(PACKAGE.rglob("*")) if "__pycache__" not in path.parts]


def files():
    return [path for path in paths() if path.is_file()]


def tree_of(path):
    return ast.parse(path.read_text(encoding="ascii"))


def module_of(path):
    parts = path.relative_to(ROOT).with_suffix("").parts
    return ".".join(parts[:-1] if parts[-1] == "__init__" else parts)


def imports_of(path):
    return [node for node in tree_of(path).body if isinstance(node, ast.ImportFrom)]


def defined_in(path):
    names = set()
    for node in tree_of(path).body:
        if isinstance(node, (ast.FunctionDef, ast.ClassDef)):
            names.add(node.name)
        if isinstance(node, ast.Assign):
            names.update(target.id for target in node.targets)
    return names


class TestFiles(unittest.TestCase):
    def test_the_package_holds_only_files_with_plain_names(self):
        for path in files():
            with self.subTest(str(path)):
                self.assertEqual(path.suffix, ".py")
                self.assertLessEqual(set(path.stem), LETTERS)
        self.assertLessEqual(len(files()), 100)

    def test_each_folder_has_an_init(self):
        for path in [PACKAGE] + [path for path in paths() if path.is_dir()]:
            self.assertTrue((path / "__init__.py").is_file(), str(path))

    def test_characters_and_sizes(self):
        for path in files():
            with self.subTest(str(path)):
                text = path.read_bytes().decode("ascii")
                self.assertTrue(all(letter == "\n" or " " <= letter <= "~" for letter in text))
                rows = text.split("\n")
                self.assertLessEqual(len(rows), 399)
                self.assertLessEqual(max(len(row) for row in rows), 120)

    def test_functions_are_short(self):
        for path in files():
            for node in ast.walk(tree_of(path)):
                if isinstance(node, ast.FunctionDef):
                    self.assertLessEqual(node.end_lineno - node.lineno + 1, 40, f"{path}: {node.name}")


class TestImports(unittest.TestCase):
    def test_imports_name_the_file_that_defines_the_name(self):
        modules = {module_of(path): path for path in files()}
        for path in files():
            for node in imports_of(path):
                names = {alias.name for alias in node.names}
                with self.subTest(path=str(path), module=node.module):
                    self.assertEqual(node.level, 0)
                    self.assertTrue(all(alias.asname is None for alias in node.names))
                    known = LIBRARY.get(node.module) or defined_in(modules[node.module])
                    self.assertLessEqual(names, known)

    def test_there_are_no_other_imports(self):
        for path in files():
            found = [node for node in ast.walk(tree_of(path)) if isinstance(node, (ast.Import, ast.ImportFrom))]
            self.assertTrue(all(isinstance(node, ast.ImportFrom) for node in found), str(path))
            self.assertEqual(len(found), len(imports_of(path)), str(path))

    def test_no_two_files_import_from_each_other(self):
        needs = {module_of(path): {node.module for node in imports_of(path)} - set(LIBRARY) for path in files()}
        while needs:
            free = [name for name, wanted in needs.items() if not wanted & set(needs)]
            self.assertTrue(free, f"these import from each other: {sorted(needs)}")
            needs = {name: wanted for name, wanted in needs.items() if name not in free}

    def test_folders_import_nothing(self):
        for path in files():
            if path.name == "__init__.py":
                self.assertEqual(imports_of(path), [])


class TestWords(unittest.TestCase):
    def test_no_word_that_the_rules_leave_out(self):
        out = (ast.Global, ast.AsyncFunctionDef, ast.Await, ast.Div, ast.Pow, ast.GeneratorExp, ast.Set, ast.Yield)
        for path in files():
            for node in ast.walk(tree_of(path)):
                with self.subTest(path=str(path), line=getattr(node, "lineno", 0)):
                    self.assertNotIsInstance(node, out)
                    if isinstance(node, ast.Constant):
                        self.assertNotIsInstance(node.value, (float, complex))
                    if isinstance(node, ast.Constant) and isinstance(node.value, str):
                        self.assertNotIn("%", node.value)

    def test_no_name_hides_a_builtin_or_what_the_file_has(self):
        builtin = set(dir(__builtins__) if not isinstance(__builtins__, dict) else __builtins__)
        for path in files():
            imported = {alias.name for node in imports_of(path) for alias in node.names}
            classes = {node.name for node in tree_of(path).body if isinstance(node, ast.ClassDef)}
            for node in ast.walk(tree_of(path)):
                name = None
                if isinstance(node, ast.arg):
                    name = node.arg
                if isinstance(node, ast.Name) and isinstance(node.ctx, ast.Store):
                    name = node.id
                self.assertNotIn(name, builtin | imported | classes, str(path))

    def test_module_level_holds_only_definitions_and_plain_names(self):
        plain = (ast.ImportFrom, ast.FunctionDef, ast.ClassDef, ast.Assign)
        for path in files():
            for node in tree_of(path).body:
                is_docstring = isinstance(node, ast.Expr) and isinstance(node.value, ast.Constant)
                self.assertTrue(is_docstring or isinstance(node, plain), f"{path}: {node.lineno}")


if __name__ == "__main__":
    unittest.main()
