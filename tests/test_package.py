"""Point 1, as far as the code itself shows it: no clock, no chance, no files.

Also that the package is one folder of plain files, and that what the
interface lists is defined in the file under which it is listed.
"""

import ast
import pathlib
import unittest

import onebell

FOLDER = pathlib.Path(onebell.__file__).parent

# The words that LANGUAGE.md lets a file import from outside of the package.
LIBRARY = {
    "__future__": {"annotations"},
    "collections": {"defaultdict", "deque"},
    "heapq": {"heappush", "heappop", "heapify", "heapreplace", "heappushpop"},
    "itertools": {
        "product", "combinations", "permutations",
        "chain", "accumulate", "pairwise", "islice", "zip_longest",
    },
    "math": {"gcd", "lcm", "isqrt", "comb", "perm", "factorial"},
}

# Builtins that read files or input, run other code, or whose answers differ
# from run to run.
BARRED = {
    "open", "input", "print", "eval", "exec", "compile", "breakpoint",
    "globals", "locals", "vars", "hash", "id", "__import__", "__builtins__",
}

LISTED = {
    "errors": [
        "BellError", "BadCount", "NoHand", "NoLetter", "NoMail",
        "Twice", "NotOpen", "BadMark", "NoNote",
    ],
    "marks": ["less", "greatest"],
    "desk": ["Desk"],
    "house": ["House"],
    "notes": ["shown", "read"],
}

# Of each class its methods, and of each method or function its arguments.
METHODS = {
    ("desk", "Desk"): {
        "__init__": ["hand"], "propose": ["letter"], "settle": ["letter", "mark"],
        "waiting": [], "handed": [], "clock": [],
    },
    ("house", "House"): {
        "__init__": ["many"], "send": ["hand", "text"], "mails": [], "bring": ["place"],
        "rest": [], "letters": [], "sender": ["letter"], "text": ["letter"], "mark": ["letter"],
        "handed": ["hand"], "clock": ["hand"],
    },
}
FUNCTIONS = {
    ("marks", "less"): ["one", "other"], ("marks", "greatest"): ["marks"],
    ("notes", "shown"): ["mail"], ("notes", "read"): ["text"],
}


def trees():
    """Each file of the package: its path and its syntax tree."""
    return [(path, ast.parse(path.read_text("ascii"))) for path in sorted(FOLDER.rglob("*.py"))]


class Package(unittest.TestCase):
    def test_imports_bring_no_clock_no_chance_and_no_files(self):
        for path, tree in trees():
            for node in ast.walk(tree):
                if isinstance(node, ast.Import):
                    self.fail(f"{path.name}:{node.lineno} imports a module as a name")
                if isinstance(node, ast.ImportFrom):
                    self.check_import(f"{path.name}:{node.lineno}", node)

    def check_import(self, place, node):
        self.assertEqual(node.level, 0, place)
        if node.module.split(".")[0] != "onebell":
            self.assertIn(node.module, LIBRARY, place)
            for name in node.names:
                self.assertIn(name.name, LIBRARY[node.module], place)

    def test_no_builtin_reads_files_or_differs_from_run_to_run(self):
        for path, tree in trees():
            for node in ast.walk(tree):
                if isinstance(node, ast.Name):
                    self.assertNotIn(node.id, BARRED, f"{path.name}:{node.lineno}")

    def test_the_folder_holds_plain_python_files_only(self):
        for path in FOLDER.rglob("*"):
            if "__pycache__" not in path.parts:
                self.assertEqual(path.suffix, ".py", path.name)

    def test_what_the_interface_lists_is_defined_in_its_file(self):
        defined = {path.stem: tree.body for path, tree in trees()}
        for stem, names in LISTED.items():
            found = [
                node.name for node in defined[stem]
                if isinstance(node, (ast.FunctionDef, ast.ClassDef))
            ]
            for name in names:
                with self.subTest(file=stem, name=name):
                    self.assertEqual(found.count(name), 1)

    def test_each_listed_method_is_defined_in_its_class_with_its_arguments(self):
        for (stem, name), methods in METHODS.items():
            body = self.found(stem, name).body
            told = {node.name: self.arguments(node) for node in body if isinstance(node, ast.FunctionDef)}
            for method, arguments in methods.items():
                with self.subTest(file=stem, method=method):
                    self.assertEqual(told.get(method), ["self"] + arguments)

    def test_each_listed_function_has_its_arguments(self):
        for (stem, name), arguments in FUNCTIONS.items():
            with self.subTest(file=stem, name=name):
                self.assertEqual(self.arguments(self.found(stem, name)), arguments)

    def found(self, stem, name):
        body = ast.parse((FOLDER / f"{stem}.py").read_text("ascii")).body
        return [node for node in body if getattr(node, "name", None) == name][0]

    def arguments(self, node):
        return [argument.arg for argument in node.args.args]


if __name__ == "__main__":
    unittest.main()
