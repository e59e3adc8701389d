"""The rules of the project's subset of Python that can be seen in a file's syntax."""

import ast
import builtins
import pathlib
import unittest

FOLDER = pathlib.Path(__file__).resolve().parent.parent / "slideyards"
FILES = sorted(FOLDER.glob("**/*.py"))
BUILTINS = {"len", "range", "enumerate", "zip", "min", "max", "sum", "abs", "sorted", "reversed", "int", "str",
            "bool", "list", "tuple", "dict", "set", "isinstance", "ord", "repr", "any", "all", "divmod", "pow",
            "map", "getattr", "hasattr", "setattr", "iter", "next", "Exception", "ValueError", "TypeError",
            "KeyError", "IndexError", "LookupError", "ZeroDivisionError", "ArithmeticError", "OverflowError",
            "RuntimeError", "NotImplementedError", "AttributeError", "StopIteration", "NotImplemented"}
METHODS = set("""append clear copy count endswith extend find get index insert isalnum isalpha isdigit islower
    isspace isupper items join keys ljust lower lstrip partition pop remove replace reverse rfind rjust rpartition
    rsplit rstrip setdefault split splitlines startswith strip update upper values zfill bit_length
    title capitalize swapcase casefold center expandtabs removeprefix removesuffix rindex isascii isdecimal
    isnumeric istitle isidentifier isprintable add discard __init__""".split())
LIBRARY = {"heapq": ("heappush", "heappop", "heapify", "heapreplace", "heappushpop"),
           "math": ("gcd", "lcm", "isqrt", "comb", "perm", "factorial"),
           "itertools": ("product", "combinations", "permutations")}
BARRED_ATTRIBUTES = set("""items keys values pop update append clear extend insert remove reverse setdefault sort
    args encode decode hex fromhex format add""".split())
BARRED = (ast.Global, ast.AsyncFunctionDef, ast.Await, ast.AsyncFor, ast.AsyncWith, ast.Import, ast.TryStar)


def tree_of(file):
    return ast.parse(file.read_text(encoding="utf-8"))


class LanguageTest(unittest.TestCase):
    def nodes(self, *kinds):
        for file in FILES:
            for node in ast.walk(tree_of(file)):
                if isinstance(node, kinds):
                    yield f"{file.name}:{getattr(node, 'lineno', 0)}", node

    def test_there_are_files(self):
        self.assertIn("yards.py", [file.name for file in FILES])

    def test_the_folder_has_nothing_else(self):
        others = [path for path in FOLDER.rglob("*")
                  if path.suffix not in (".py", ".pyc") and path.name != "__pycache__"]
        self.assertEqual(others, [])

    def test_lines_and_signs(self):
        for file in FILES:
            text = file.read_text(encoding="utf-8")
            self.assertTrue(all(" " <= sign <= "~" or sign == "\n" for sign in text), file.name)
            self.assertLess(len(text.splitlines()), 400, file.name)
            self.assertLessEqual(max(len(line) for line in text.split("\n")), 120, file.name)

    def test_sizes_of_functions(self):
        for place, node in self.nodes(ast.FunctionDef):
            self.assertLessEqual(node.end_lineno - node.lineno + 1, 40, place)
            self.assertEqual(len(node.decorator_list), 0, place)

    def test_module_level(self):
        allowed = (ast.Expr, ast.ImportFrom, ast.FunctionDef, ast.ClassDef, ast.Assign)
        for file in FILES:
            for node in tree_of(file).body:
                self.assertIsInstance(node, allowed, file.name)

    def test_imports(self):
        for place, node in self.nodes(ast.ImportFrom):
            if node.module in LIBRARY:
                for name in node.names:
                    self.assertTrue(name.name in LIBRARY[node.module] and name.asname is None, place)
                continue
            self.assertTrue(node.level == 0 and node.module.startswith("slideyards."), place)
            for name in node.names:
                self.assertTrue(name.name != "*" and name.asname is None, place)
                source = tree_of(FOLDER / (node.module.split(".")[1] + ".py")).body
                self.assertIn(name.name, [getattr(item, "name", None) for item in source], place)

    def test_statements(self):
        for place, node in self.nodes(*BARRED, ast.GeneratorExp, ast.Div, ast.Yield, ast.YieldFrom):
            self.fail(f"{place}: {node}")
        for place, node in self.nodes(ast.Constant):
            self.assertNotIsInstance(node.value, (float, complex), place)
            self.assertNotIn("%", node.value if isinstance(node.value, str) else "", place)

    def test_names(self):
        for place, node in self.nodes(ast.Name):
            if isinstance(node.ctx, ast.Load):
                self.assertTrue(node.id in BUILTINS or node.id not in vars(builtins), f"{place}: {node.id}")
            else:
                self.assertNotIn(node.id, vars(builtins), f"{place}: {node.id}")
        for place, node in self.nodes(ast.arg, ast.FunctionDef, ast.ClassDef):
            name = node.arg if isinstance(node, ast.arg) else node.name
            self.assertNotIn(name, vars(builtins), f"{place}: {name}")

    def test_attributes_that_are_assigned(self):
        for place, node in self.nodes(ast.Attribute):
            if isinstance(node.ctx, ast.Store):
                self.assertNotIn(node.attr, BARRED_ATTRIBUTES, place)
                self.assertIsInstance(node.value, ast.Name, place)

    def test_names_of_imports_and_classes_are_kept(self):
        for file in FILES:
            tree = tree_of(file)
            taken = [name.name for node in tree.body if isinstance(node, ast.ImportFrom) for name in node.names]
            taken += [node.name for node in tree.body if isinstance(node, ast.ClassDef)]
            self.assertEqual(len(set(taken)), len(taken), file.name)
            for node in ast.walk(tree):
                if isinstance(node, ast.arg):
                    self.assertNotIn(node.arg, taken, f"{file.name}:{node.lineno}")
                elif isinstance(node, ast.Name) and isinstance(node.ctx, ast.Store):
                    self.assertNotIn(node.id, taken, f"{file.name}:{node.lineno}")

    def test_no_file_imports_itself_by_others(self):
        ahead = {file.stem: [node.module.split(".")[1] for node in tree_of(file).body
                             if isinstance(node, ast.ImportFrom) and node.module.startswith("slideyards.")]
                 for file in FILES}
        while ahead:
            free = [name for name in ahead if not [other for other in ahead[name] if other in ahead]]
            self.assertNotEqual(free, [], ahead)
            for name in free:
                del ahead[name]

    def test_methods(self):
        own = {node.name for _, node in self.nodes(ast.FunctionDef)}
        for place, node in self.nodes(ast.Call):
            if isinstance(node.func, ast.Attribute):
                self.assertIn(node.func.attr, METHODS | own, place)

    def test_is_with_none_and_bools_alone(self):
        for place, node in self.nodes(ast.Compare):
            for sign, other in zip(node.ops, node.comparators):
                if isinstance(sign, (ast.Is, ast.IsNot)):
                    self.assertIsInstance(other, ast.Constant, place)


if __name__ == "__main__":
    unittest.main()
