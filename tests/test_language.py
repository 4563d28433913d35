"""Those rules of LANGUAGE.md that can be checked by looking at the files one by one."""

import ast
import os
import unittest

FOLDER = os.path.join(os.path.dirname(os.path.dirname(os.path.abspath(__file__))), "saidroad")
LIBRARY = {
    "heapq": {"heappush", "heappop", "heapify", "heapreplace", "heappushpop"},
    "math": {"gcd", "lcm", "isqrt", "comb", "perm", "factorial"},
    "itertools": {
        "product", "combinations", "permutations", "chain", "accumulate", "pairwise", "islice", "zip_longest",
    },
    "collections": {"defaultdict"},
}
BUILTINS = set(
    "len range enumerate zip min max sum abs sorted reversed int str bool list tuple dict set isinstance ord repr "
    "any all divmod map iter next super ValueError KeyError IndexError ZeroDivisionError TypeError".split()
)
METHODS = set(
    "append clear copy count endswith extend find get index insert isalnum isalpha isdigit islower isspace isupper items "
    "join keys ljust lower lstrip partition pop remove replace reverse rfind rjust rpartition rsplit rstrip setdefault "
    "split splitlines startswith strip update upper values zfill bit_length isascii isdecimal removeprefix removesuffix "
    "add discard __init__".split()
)
BARRED = (
    ast.Global, ast.AsyncFunctionDef, ast.Await, ast.AsyncFor, ast.AsyncWith, ast.Div, ast.TryStar, ast.AnnAssign,
)


def sources():
    """Each file of the package: its name and its text."""
    found = []
    for folder, _, names in os.walk(FOLDER):
        if not folder.endswith("__pycache__"):
            for name in sorted(names):
                with open(os.path.join(folder, name), encoding="utf-8", newline="") as file:
                    found.append((name, file.read()))
    return found


def nodes():
    """Each piece of each file, with a word for where it stands."""
    for name, text in sources():
        for node in ast.walk(ast.parse(text)):
            yield f"{name}:{getattr(node, 'lineno', 0)}", node


class Language(unittest.TestCase):
    def test_files(self):
        self.assertTrue(sources())
        for name, text in sources():
            with self.subTest(name):
                self.assertTrue(name.endswith(".py"))
                self.assertEqual(name, name.lower())
                self.assertTrue(all(sign == "\n" or " " <= sign <= "~" for sign in text))
                self.assertLessEqual(len(text.splitlines()), 399)
                self.assertLessEqual(max(len(line) for line in text.splitlines()), 120)

    def test_functions_are_small_and_undecorated(self):
        for where, node in nodes():
            if isinstance(node, ast.FunctionDef):
                self.assertLessEqual(node.end_lineno - node.lineno + 1, 40, where)
                self.assertEqual(node.decorator_list, [], where)

    def test_imports(self):
        for where, node in nodes():
            self.assertNotIsInstance(node, ast.Import, where)
            if isinstance(node, ast.ImportFrom):
                self.assertEqual(node.level, 0, where)
                for alias in node.names:
                    self.assertIsNone(alias.asname, where)
                    if not node.module.startswith("saidroad."):
                        self.assertIn(alias.name, LIBRARY[node.module], where)

    def test_values_and_statements(self):
        for where, node in nodes():
            self.assertNotIsInstance(node, BARRED, where)
            if isinstance(node, ast.Constant):
                self.assertNotIsInstance(node.value, (float, complex), where)
                if isinstance(node.value, str):
                    self.assertNotIn("%", node.value, where)

    def test_builtins(self):
        known = set(dir(__builtins__) if not isinstance(__builtins__, dict) else __builtins__)
        for where, node in nodes():
            if isinstance(node, ast.Name) and node.id in known:
                self.assertIsInstance(node.ctx, ast.Load, where)
                self.assertIn(node.id, BUILTINS, where)
            if isinstance(node, ast.arg):
                self.assertNotIn(node.arg, known, where)
            if isinstance(node, (ast.FunctionDef, ast.ClassDef)):
                self.assertNotIn(node.name, known, where)

    def test_methods_that_are_called(self):
        own = {node.name for _, node in nodes() if isinstance(node, ast.FunctionDef)}
        for where, node in nodes():
            if isinstance(node, ast.Call) and isinstance(node.func, ast.Attribute):
                self.assertIn(node.func.attr, own | METHODS, where)

    def test_no_name_is_a_method_and_an_attribute(self):
        methods, attributes = set(), set()
        for _, node in nodes():
            if isinstance(node, ast.ClassDef):
                methods |= {row.name for row in node.body if isinstance(row, ast.FunctionDef)}
            if isinstance(node, ast.Attribute) and isinstance(node.ctx, ast.Store):
                attributes.add(node.attr)
        self.assertEqual(methods & attributes, set())
        self.assertEqual((methods | attributes) & (METHODS - {"__init__"}), set())

    def test_no_local_name_is_an_import_or_a_function_of_its_file(self):
        for name, text in sources():
            tree = ast.parse(text)
            taken = {alias.name for row in tree.body if isinstance(row, ast.ImportFrom) for alias in row.names}
            taken |= {row.name for row in tree.body if isinstance(row, (ast.FunctionDef, ast.ClassDef))}
            for node in ast.walk(tree):
                if isinstance(node, ast.Name) and isinstance(node.ctx, ast.Store):
                    self.assertNotIn(node.id, taken, f"{name}:{node.lineno}")
                if isinstance(node, ast.arg):
                    self.assertNotIn(node.arg, taken, f"{name}:{node.lineno}")
                if isinstance(node, ast.MatchAs) and node.name:
                    self.assertNotIn(node.name, taken, f"{name}:{node.lineno}")

    def test_no_files_import_from_each_other(self):
        ahead = {}
        for name, text in sources():
            rows = [node.module for node in ast.walk(ast.parse(text)) if isinstance(node, ast.ImportFrom)]
            ahead["saidroad." + name[:-3]] = {module for module in rows if module.startswith("saidroad")}
        done = set()
        while len(done) < len(ahead):
            ready = {name for name in ahead if name not in done and ahead[name] <= done}
            self.assertTrue(ready, sorted(set(ahead) - done))
            done |= ready

    def test_is_stands_beside_none_and_truths(self):
        for where, node in nodes():
            if isinstance(node, ast.Compare) and isinstance(node.ops[0], (ast.Is, ast.IsNot)):
                self.assertIsInstance(node.comparators[0], ast.Constant, where)


if __name__ == "__main__":
    unittest.main()
