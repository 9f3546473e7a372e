import ast
import importlib
import re
import unittest
from pathlib import Path

from language import PACKAGE, faults, words_at_fault

FOLDER = Path(__file__).resolve().parent.parent / PACKAGE
FILES = sorted(FOLDER.glob("*.py"))

OUTSIDE = [
    ("import math", "L16"), ("from os import path", "L2"), ("from .checks import is_name", "L2"),
    ("from math import sqrt", "L2"), ("from priceblind.checks import *", "L2"), ("print(1)", "L3"),
    ("A, B = 0, 1", "L3"), ("for k in (1, 2):\n    pass", "L3"), ("@cached\ndef f():\n    return 1", "L4"),
    ("class A:\n    def __hash__(self):\n        return 1", "L5"), ("def f():\n    global x\n    x = 1", "L6"),
    ("async def f():\n    return 1", "L6"), ("def f():\n    return 1.5", "L7"), ("def f(a):\n    return a / 2", "L7"),
    ("def f(a):\n    a /= 2\n    return a", "L7"), ("def f():\n    return bytes(3)", "L7"),
    ("def f(a):\n    return type(a)", "L8"), ("def f(a):\n    return hash(a)", "L8"),
    ("def f(a):\n    return callable(a)", "L8"), ("def f(a):\n    return a.__dict__", "L8"),
    ("def f():\n" + "    a = 1\n" * 40, "L10"), ("A = 1\n" * 400, "L10"), ("A = '" + "a" * 120 + "'", "L10"),
    ("def f():\n\treturn 1", "L14"), ("# \u00e9", "L14"), ("def f(__a):\n    return 1", "L12"),
    ("def f(id):\n    return 1", "L15"), ("def f():\n    max = 1\n    return max", "L15"),
    ("def f(elements):\n    return 1", "L17"), ("def f(a):\n    raise a", "L19"),
    ("def f(a, b):\n    return a is b", "L20"), ("def f(a):\n    return a.encode_all()", "L25"),
    ("def f(a):\n    return any(b for b in a)", "L7"), ("def f(a):\n    b = set(a)\n    return b", "L24"),
    ("def f(a):\n    return [b for b in set(a)]", "L24"), ("def f(a):\n    b = zip(a, a)\n    return b", "L23"),
    ("from priceblind.checks import is_q\ndef f(is_q):\n    return 1", "L15"), ("def _lay_f():\n    return 1", "L12"),
    ("def f(a):\n    return [[b for b in c] for b, c in a]", "L7"), ("class A:\n    def format(self):\n        pass", "L26"),
    ("def f(a):\n    a.values = 1", "L26"), ("def f():\n    try:\n        pass\n    except IndexError:\n        pass", "L19"),
    ("def f():\n    return '% d'", "L27"), ("def f():\n    try:\n        pass\n    except:\n        pass", "L6"),
]


class Language(unittest.TestCase):
    def test_files_of_the_package(self):
        self.assertIn(FOLDER / "__init__.py", FILES)
        for path in FOLDER.iterdir():
            if path.name != "__pycache__":
                self.assertRegex(path.name, re.compile(r"^(__init__|[a-z][a-z0-9_]*)\.py$"))

    def test_no_file_breaks_a_rule(self):
        texts = [path.read_text(encoding="utf-8") for path in FILES]
        for path, text in zip(FILES, texts):
            self.assertEqual((path.name, faults(text, texts), words_at_fault(text)), (path.name, [], []))

    def test_imports_name_the_file_that_defines(self):
        for path in FILES:
            for node in ast.walk(ast.parse(path.read_text(encoding="utf-8"))):
                if isinstance(node, ast.ImportFrom) and node.module.startswith(PACKAGE + "."):
                    module = importlib.import_module(node.module)
                    for alias in node.names:
                        value = getattr(module, alias.name)
                        self.assertEqual(getattr(value, "__module__", node.module), node.module, path.name)

    def test_what_is_imported_is_used(self):
        for path in FILES:
            tree = ast.parse(path.read_text(encoding="utf-8"))
            names = {alias.name for node in tree.body if isinstance(node, ast.ImportFrom) for alias in node.names}
            used = {node.id for node in ast.walk(tree) if isinstance(node, ast.Name)}
            self.assertEqual((path.name, names - used), (path.name, set()))

    def test_what_is_outside_is_found(self):
        for text, rule in OUTSIDE:
            with self.subTest(text=text[:60]):
                self.assertIn(rule, [found for found, _ in faults(text)])

    def test_barred_words_are_found_outside_of_docstrings_alone(self):
        self.assertEqual(words_at_fault("A = 'enum'"), ["enum"])
        self.assertEqual(words_at_fault("def namedtuple():\n    return 1"), ["namedtuple"])
        self.assertEqual(words_at_fault('"""A type."""\n# an enum\ndef f():\n    "A type."\n    return 1'), [])


if __name__ == "__main__":
    unittest.main()
