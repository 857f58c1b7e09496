"""What a test can see of the rules for the package's files, and of where the interface stands."""

import ast
import pathlib
import unittest

ROOT = pathlib.Path(__file__).resolve().parent.parent
PACKAGE = ROOT / "rivalprices"
LIBRARY = {"heapq", "math", "itertools", "collections", "__future__"}
BARRED = (ast.Global, ast.AsyncFunctionDef, ast.Await, ast.Div)
INTERFACE = {
    "errors": {
        name: [] for name in (
            "PriceError", "InvalidRatio", "Singular", "InvalidMarket", "UnknownName", "DuplicateName",
            "InvalidMerger", "InvalidCommand", "InvalidLine",
        )
    },
    "ratio": {
        "ratio": ["n", "d"], "add": ["a", "b"], "sub": ["a", "b"], "times": ["a", "b"], "over": ["a", "b"],
        "less": ["a", "b"], "at_most": ["a", "b"], "sign": ["a"],
    },
    "matrix": {"product": ["rows", "values"], "is_dominant": ["rows"], "solve": ["rows", "right"]},
    "market": {"Market": []},
    "prices": {
        "equilibrium": ["market"], "judge": ["market", "prices"], "profit": ["market", "owner", "prices"],
        "is_lively": ["market"], "buyers_loss": ["market", "prices", "others"],
    },
    "mergers": {
        "merged": ["market", "owner", "other", "name"], "remedy": ["market", "owner", "other", "name", "buyer"],
        "saved": ["market", "name", "part"], "cost_cut": ["market", "owner", "other", "name"],
        "alone": ["market", "names"], "smallest_market": ["market", "name", "rise"],
    },
    "notation": {
        "format_ratio": ["value"], "parse_ratio": ["text"], "format_market": ["market"], "parse_market": ["text"],
    },
    "session": {"Session": [], "replay": ["text"]},
}
METHODS = {
    ("market", "Market"): {
        "__init__": ["products", "rivalries"], "names": [], "owners": [], "owned": ["owner"], "product": ["name"],
        "cross": ["one", "other"], "rivalries": [], "demands": ["prices"], "with_owners": ["owners"],
        "with_costs": ["costs"],
    },
    ("session", "Session"): {"__init__": ["text"], "run": ["command"], "market": [], "transcript": []},
}


def files():
    return sorted(PACKAGE.glob("*.py"))


def parameters(node):
    return [part.arg for part in node.args.args]


class Files(unittest.TestCase):
    def test_the_folder_holds_python_files_alone(self):
        found = [path.name for path in PACKAGE.iterdir() if path.name != "__pycache__"]
        self.assertIn("__init__.py", found)
        self.assertEqual([name for name in found if not name.endswith(".py")], [])

    def test_sizes_and_characters(self):
        for path in files():
            text = path.read_bytes().decode("utf-8")
            self.assertLessEqual(len(text.splitlines()), 399, path)
            self.assertLessEqual(max(len(line) for line in text.split("\n")), 120, path)
            self.assertEqual([c for c in text if c != "\n" and not " " <= c <= "~"], [], path)

    def test_functions_are_short(self):
        for path in files():
            for node in ast.walk(ast.parse(path.read_text())):
                if isinstance(node, ast.FunctionDef):
                    self.assertLessEqual(node.end_lineno - node.lineno + 1, 40, (path, node.name))

    def test_imports(self):
        for path in files():
            for node in ast.walk(ast.parse(path.read_text())):
                if isinstance(node, ast.Import):
                    self.assertEqual((path.name, [name.name for name in node.names]), ("__main__.py", ["sys"]))
                if isinstance(node, ast.ImportFrom):
                    self.assertEqual(node.level, 0)
                    self.assertIn(node.module.split(".")[0], LIBRARY | {"rivalprices"}, path)

    def test_no_barred_statements_and_no_floats(self):
        for path in files():
            for node in ast.walk(ast.parse(path.read_text())):
                self.assertNotIsInstance(node, BARRED, path)
                if isinstance(node, ast.Constant):
                    self.assertNotIsInstance(node.value, (float, complex), path)


class Interface(unittest.TestCase):
    def test_all_stands_in_its_own_file(self):
        for module, names in INTERFACE.items():
            tree = ast.parse((PACKAGE / f"{module}.py").read_text())
            defined = {
                node.name: node for node in tree.body if isinstance(node, (ast.FunctionDef, ast.ClassDef))
            }
            for name, arguments in names.items():
                self.assertIn(name, defined)
                if isinstance(defined[name], ast.FunctionDef):
                    self.assertEqual(parameters(defined[name]), arguments, name)

    def test_the_methods_stand_in_the_class(self):
        for (module, owner), listed in METHODS.items():
            tree = ast.parse((PACKAGE / f"{module}.py").read_text())
            body = next(node.body for node in tree.body if isinstance(node, ast.ClassDef) and node.name == owner)
            methods = {node.name: parameters(node) for node in body if isinstance(node, ast.FunctionDef)}
            for name, arguments in listed.items():
                self.assertEqual(methods.get(name), ["self", *arguments], name)


if __name__ == "__main__":
    unittest.main()
