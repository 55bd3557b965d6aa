"""What of the rules for the program's form a simple look at its files can see."""

import ast
import builtins
import re
import unittest
from pathlib import Path

PACKAGE = Path(__file__).resolve().parent.parent / "beatlanes"

LIBRARY = {
    "math": {"gcd", "lcm", "isqrt", "comb", "perm", "factorial"},
    "heapq": {"heappush", "heappop", "heapify", "heapreplace", "heappushpop"},
    "itertools": {"product", "combinations", "permutations", "chain", "accumulate", "pairwise", "islice",
                  "zip_longest"},
    "collections": {"defaultdict"},
}
BUILTINS = set("""len range enumerate zip min max sum abs sorted reversed int str bool list tuple dict set isinstance
ord repr any all divmod pow map iter next Exception ValueError TypeError KeyError IndexError LookupError
ZeroDivisionError ArithmeticError OverflowError RuntimeError NotImplementedError AttributeError StopIteration
NotImplemented""".split())
METHODS = set("""append clear copy count endswith extend find get index insert isalnum isalpha isdigit islower isspace
isupper items join keys ljust lower lstrip partition pop remove replace reverse rfind rjust rpartition rsplit rstrip
setdefault split splitlines startswith strip update upper values zfill bit_length add discard sort isascii""".split())
BARRED_WORDS = re.compile(r"\b(register|mro|elements|open|input|law|eval|exec|compile|globals|locals|vars|type)\b")
BARRED_NODES = (ast.Global, ast.AsyncFunctionDef, ast.Await, ast.Div, ast.AnnAssign)


def files():
    return sorted(PACKAGE.rglob("*.py"))


def nodes(kinds):
    for file in files():
        for node in ast.walk(ast.parse(file.read_text())):
            if isinstance(node, kinds):
                yield file.name, node


class Form(unittest.TestCase):
    def test_the_folder_holds_files_with_plain_names_alone(self):
        self.assertTrue((PACKAGE / "__init__.py").is_file())
        for entry in PACKAGE.rglob("*"):
            if "__pycache__" not in entry.parts and entry.is_file():
                self.assertRegex(entry.name, r"^(__init__|[a-z][a-z0-9]*)\.py$")
                self.assertNotIn(entry.name[:-3], dir(builtins))

    def test_characters_and_sizes(self):
        for file in files():
            text = file.read_text()
            self.assertIsNone(re.search(r"[^ -~\n]", text), file)
            lines = text.split("\n")
            self.assertLessEqual(len(lines), 400, file)
            self.assertLessEqual(max(len(line) for line in lines), 120, file)

    def test_sizes_of_functions(self):
        for file, node in nodes(ast.FunctionDef):
            self.assertLessEqual(node.end_lineno - node.lineno + 1, 40, (file, node.name))
            self.assertEqual(len(node.decorator_list), 0, (file, node.name))

    def test_module_level(self):
        for file in files():
            for node in ast.parse(file.read_text()).body:
                self.assertIsInstance(node, (ast.ImportFrom, ast.FunctionDef, ast.ClassDef, ast.Assign, ast.Expr), file)
                if isinstance(node, ast.Expr):
                    self.assertIsInstance(node.value, ast.Constant, file)

    def test_imports(self):
        self.assertEqual([file for file, _ in nodes(ast.Import)], [])
        for file, node in nodes(ast.ImportFrom):
            self.assertEqual((node.level, node.col_offset), (0, 0), file)
            for alias in node.names:
                self.assertIsNone(alias.asname, file)
                if node.module.startswith("beatlanes."):
                    tree = ast.parse((PACKAGE / (node.module.split(".")[1] + ".py")).read_text())
                    found = [part.name for part in tree.body if isinstance(part, (ast.FunctionDef, ast.ClassDef))]
                    found += [part.targets[0].id for part in tree.body if isinstance(part, ast.Assign)]
                    self.assertIn(alias.name, found, (file, node.module))
                else:
                    self.assertIn(alias.name, LIBRARY.get(node.module, ()), file)

    def test_each_import_is_needed(self):
        for file in files():
            tree = ast.parse(file.read_text())
            read = [node.id for node in ast.walk(tree) if isinstance(node, ast.Name)]
            for node in ast.walk(tree):
                if isinstance(node, ast.ImportFrom):
                    for alias in node.names:
                        self.assertIn(alias.name, read, file)

    def test_names(self):
        for file, node in nodes(ast.Name):
            self.assertRegex(node.id, r"^_?[A-Za-z][A-Za-z0-9_]*$|^_$", file)
            if hasattr(builtins, node.id):
                self.assertIn(node.id, BUILTINS, (file, node.lineno))
                self.assertIsInstance(node.ctx, ast.Load, (file, node.lineno))
        for file, node in nodes(ast.arg):
            self.assertFalse(hasattr(builtins, node.arg), (file, node.lineno))

    def test_no_local_name_is_that_of_an_import(self):
        for file in files():
            tree = ast.parse(file.read_text())
            imported = [alias.name for node in ast.walk(tree) if isinstance(node, ast.ImportFrom)
                        for alias in node.names]
            for node in ast.walk(tree):
                if isinstance(node, ast.Name) and isinstance(node.ctx, ast.Store):
                    self.assertNotIn(node.id, imported, (file, node.lineno))
                if isinstance(node, ast.arg):
                    self.assertNotIn(node.arg, imported, (file, node.lineno))

    def test_captured_names_are_nothing_else(self):
        for file in files():
            tree = ast.parse(file.read_text())
            imported = {alias.name for node in ast.walk(tree) if isinstance(node, ast.ImportFrom) for alias in node.names}
            for function in [node for node in ast.walk(tree) if isinstance(node, ast.FunctionDef)]:
                inner = list(ast.walk(function))
                captured = {node.name for node in inner if isinstance(node, (ast.MatchAs, ast.MatchStar)) and node.name}
                others = {node.arg for node in inner if isinstance(node, ast.arg)}
                others |= {node.id for node in inner if isinstance(node, ast.Name) and isinstance(node.ctx, ast.Store)}
                self.assertEqual(captured & (others | imported | set(dir(builtins))), set(), (file, function.name))

    def test_methods(self):
        own = {node.name for _, node in nodes(ast.FunctionDef)}
        for file, node in nodes(ast.Call):
            if isinstance(node.func, ast.Attribute):
                self.assertIn(node.func.attr, METHODS | own, (file, node.lineno))

    def test_values(self):
        for file, node in nodes(ast.Constant):
            self.assertNotIsInstance(node.value, (float, complex), (file, node.lineno))
            if isinstance(node.value, str):
                self.assertNotIn("%", node.value, (file, node.lineno))
        for file, node in nodes(BARRED_NODES):
            self.fail((file, node))

    def test_barred_words(self):
        for file, node in nodes((ast.Name, ast.arg, ast.Attribute, ast.FunctionDef)):
            for field in ("id", "arg", "attr", "name"):
                self.assertNotRegex(str(getattr(node, field, "")), BARRED_WORDS, file)


if __name__ == "__main__":
    unittest.main()
