"""Those rules of the language for the package that a short test can see."""

import ast
import builtins
import pathlib
import re
import unittest

FOLDER = pathlib.Path(__file__).resolve().parent.parent / "framecams"
LIBRARY = {
    "heapq": "heappush heappop heapify heapreplace heappushpop".split(),
    "math": "gcd lcm isqrt comb perm factorial".split(),
    "itertools": "product combinations permutations chain accumulate pairwise islice zip_longest".split(),
    "collections": ["defaultdict"],
}
BUILTINS = """len range enumerate zip min max sum abs sorted reversed int str bool bytes list tuple dict set frozenset
isinstance ord repr any all divmod pow getattr hasattr setattr iter next map super Exception ValueError TypeError
KeyError IndexError LookupError ZeroDivisionError ArithmeticError OverflowError RuntimeError NotImplementedError
AttributeError StopIteration NotImplemented property staticmethod classmethod""".split()
BARRED = """register mro elements open input law version_info with_traceback add_note type typing enum Enum Flag Generic
Protocol ABC namedtuple NamedTuple TypedDict eval exec globals locals vars dir id""".split()
FORBIDDEN = (ast.Import, ast.Global, ast.AsyncFunctionDef, ast.Await, ast.AsyncFor, ast.AsyncWith, ast.Div)


def problems_of_text(text):
    """The rules L10, L14 and L27 on lines and characters."""
    lines = text.splitlines()
    if len(lines) > 399:
        yield "the file is too long"
    for number, line in enumerate(lines, start=1):
        if len(line) > 120:
            yield f"line {number} is too long"
        if re.search("[^ -~]", line):
            yield f"line {number} has a character that is not let"


def bound_names(node):
    """The names that the node gives a meaning."""
    if isinstance(node, (ast.FunctionDef, ast.ClassDef)):
        return [node.name]
    if isinstance(node, ast.arg):
        return [node.arg]
    if isinstance(node, ast.Name) and isinstance(node.ctx, ast.Store):
        return [node.id]
    return [alias.asname or alias.name for alias in node.names] if isinstance(node, ast.ImportFrom) else []


def problems_of_import(node):
    """The rules L2 and L16 on one import."""
    if node.level or any(alias.name == "*" for alias in node.names):
        yield f"line {node.lineno}: not by full names"
    elif node.module in LIBRARY:
        if any(alias.asname or alias.name not in LIBRARY[node.module] for alias in node.names):
            yield f"line {node.lineno}: not of this library"
    elif not node.module.startswith("framecams."):
        yield f"line {node.lineno}: from outside of the package"
    else:
        tree = ast.parse((FOLDER / (node.module.split(".")[1] + ".py")).read_text())
        own = [name for part in tree.body if not isinstance(part, ast.ImportFrom)
               for child in ([part] + getattr(part, "targets", [])) for name in bound_names(child)]
        if any(alias.name not in own for alias in node.names):
            yield f"line {node.lineno}: not the file that defines the name"


def problems_of_node(node):
    """The rules on single nodes: L2, L3, L6, L7, L8, L10, L12, L17, L19."""
    line = f"line {getattr(node, 'lineno', 0)}"
    if isinstance(node, FORBIDDEN):
        yield f"{line}: not allowed"
    if isinstance(node, ast.Constant) and (isinstance(node.value, float) or "%" in str(node.value)):
        yield f"{line}: a literal that is not let"
    if isinstance(node, ast.FunctionDef) and node.end_lineno - node.lineno > 39:
        yield f"{line}: the function is too long"
    if isinstance(node, ast.ImportFrom):
        yield from problems_of_import(node)
    if isinstance(node, ast.Name) and node.id in vars(builtins) and node.id not in BUILTINS:
        yield f"{line}: a builtin that is not let"
    for name in bound_names(node):
        if name in vars(builtins) or name in BARRED or re.match("__(?!(init|len|enter|exit|bool|contains)__)|_wall|_pe_", name):
            yield f"{line}: the name {name} is not let"


def problems_of_module(tree):
    """The rules L3 and L15 on what stands at module level."""
    names = [name for node in tree.body for part in ([node] + getattr(node, "targets", [])) for name in bound_names(part)]
    if len(names) != len(dict.fromkeys(names)):
        yield "a name is bound twice"
    for at, node in enumerate(tree.body):
        is_docstring = at == 0 and isinstance(node, ast.Expr) and isinstance(node.value, ast.Constant)
        if not is_docstring and not isinstance(node, (ast.ImportFrom, ast.FunctionDef, ast.ClassDef, ast.Assign)):
            yield f"line {node.lineno}: not at module level"
    shadowed = [name for node in tree.body if isinstance(node, (ast.ImportFrom, ast.ClassDef)) for name in bound_names(node)]
    for function in [node for node in ast.walk(tree) if isinstance(node, (ast.FunctionDef, ast.Lambda))]:
        for node in [part for part in ast.walk(function) if part != function]:
            if any(name in shadowed for name in bound_names(node)):
                yield f"line {node.lineno}: the name of an import or a class"


def problems_of(text):
    """All problems that the text of a file has."""
    tree = ast.parse(text)
    found = list(problems_of_text(text)) + list(problems_of_module(tree))
    for node in ast.walk(tree):
        found += problems_of_node(node)
    return found


class Language(unittest.TestCase):
    def files(self):
        return [path for path in sorted(FOLDER.iterdir()) if path.name != "__pycache__"]

    def test_the_folder_holds_plain_files_alone(self):
        self.assertIn("__init__.py", [path.name for path in self.files()])
        for path in self.files():
            self.assertTrue(path.is_file() and re.fullmatch("[a-z][a-z0-9_]*[.]py|__init__[.]py", path.name), path)

    def test_the_rules(self):
        for path in self.files():
            with self.subTest(file=path.name):
                self.assertEqual(problems_of(path.read_text()), [])

    def test_no_two_files_import_from_each_other(self):
        needs = {}
        for path in self.files():
            imports = [node for node in ast.parse(path.read_text()).body if isinstance(node, ast.ImportFrom)]
            needs[path.stem] = [node.module.split(".")[1] for node in imports if node.module not in LIBRARY]
        while needs:
            free = [name for name, wanted in needs.items() if not any(other in needs for other in wanted)]
            self.assertTrue(free, f"a circle among {sorted(needs)}")
            needs = {name: wanted for name, wanted in needs.items() if name not in free}

    def test_broken_rules_are_noticed(self):
        broken = ("import math", "from os import path", "from framecams.waves import is_turn", "x = 1 / 2", "x = 0.5",
                  "x = 'a%'", "def f(id):\n    return id", "def f():\n    return hash(1)", "x = 1\nx = 2", "print(1)",
                  "from math import gcd\ndef f(gcd):\n    return gcd", "x = '" + "a" * 120 + "'", "x = '\u00e4'",
                  "def f():\n" + "    x = 1\n" * 40, "x = 1\n" + "\n" * 400, "def f():\n    global x\n    x = 1")
        for text in broken:
            with self.subTest(text=text):
                self.assertNotEqual(problems_of(text), [])


if __name__ == "__main__":
    unittest.main()
