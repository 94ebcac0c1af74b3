"""LANGUAGE.md, and the last sentences of point [1]: how the package is written."""

import ast
import pathlib
import unittest
import warnings

from tests.rules import faults

FOLDER = pathlib.Path(__file__).resolve().parent.parent / "espalier"

# One breach each, with the rule that it must be found under.
BREACHES = (
    ("L2", "from time import time\n"),
    ("L2", "from random import random\n"),
    ("L2", "from espalier.memory import *\n"),
    ("L2", "from .memory import Layout\n"),
    ("L2", "def f():\n    from espalier.memory import Layout\n    return Layout\n"),
    ("L16", "import espalier.memory\n"),
    ("L3", "A, B = 0, 1\n"),
    ("L3", "A = [0] * 4\n"),
    ("L3", "for k in (1, 2):\n    pass\n"),
    ("L4", "@staticmethod\ndef f():\n    return 1\n"),
    ("L5", "class A:\n    def __hash__(self):\n        return 1\n"),
    ("L6", "async def f():\n    return 1\n"),
    ("L7", "def f(n):\n    return n / 2\n"),
    ("L7", "HALF = 0.5\n"),
    ("L8", "def f():\n    return open('x')\n"),
    ("L8", "def f(n):\n    print(n)\n"),
    ("L8", "def f(n):\n    return n.__dict__\n"),
    ("L10", "def f():\n" + "    pass\n" * 40),
    ("L10", "A = '" + "a" * 120 + "'\n"),
    ("L10", "\n" * 400),
    ("L12", "def f():\n    __a = 1\n    return __a\n"),
    ("L14", "A = '\u20ac'\n"),
    ("L14", "\tA = 1\n".replace("\tA", "A\t")),
    ("L15", "def f(hash):\n    return hash\n"),
    ("L15", "A = 1\nA = 2\n"),
    ("L17", "def f(law):\n    return law\n"),
    ("L18", "class A:\n    def n(self):\n        self.n = 1\n"),
    ("L18", "def f(a):\n    return a.unknown\n"),
    ("L19", "def f():\n    try:\n        return 1\n    except Exception:\n        return 2\n"),
    ("L19", "def f():\n    try:\n        return 1\n    except:\n        return 2\n"),
    ("L20", "def f(a, b):\n    return a is b\n"),
    ("L24", "def f():\n    return [k for k in {1, 2}]\n"),
    ("L25", "def f(text):\n    return text.unknown()\n"),
    ("L27", "A = 'n % m'\n"),
    ("L28", "class A:\n    def __init__(self):\n        return None\n"),
)


def package_files():
    return sorted(FOLDER.glob("**/*.py"))


class PackageTest(unittest.TestCase):
    def test_the_folder_holds_plain_files_only(self):
        for path in FOLDER.glob("**/*"):
            if "__pycache__" not in path.parts:
                self.assertEqual(path.suffix, ".py", path)
                self.assertRegex(path.stem, r"\A(__init__|__main__|[a-z][a-z0-9_]*)\Z")
        self.assertTrue((FOLDER / "__init__.py").is_file())

    def test_no_file_breaks_a_rule_that_is_looked_for(self):
        sources = {path: path.read_text("utf-8") for path in package_files()}
        self.assertGreaterEqual(len(sources), 4)
        for path, source in sources.items():
            others = [text for other, text in sources.items() if other != path]
            self.assertEqual(faults(source, others), [], path)

    def test_no_two_files_import_from_each_other(self):
        imports = {}
        for path in package_files():
            tree = ast.parse(path.read_text("utf-8"))
            imports["espalier." + path.stem] = [
                node.module for node in ast.walk(tree)
                if isinstance(node, ast.ImportFrom) and node.module.startswith("espalier")]
        while imports:
            free = [name for name, needs in imports.items()
                    if not any(need in imports for need in needs)]
            self.assertNotEqual(free, [], imports)
            for name in free:
                del imports[name]

    def test_python_itself_warns_of_nothing(self):
        for path in package_files():
            with warnings.catch_warnings():
                warnings.simplefilter("error")
                compile(path.read_text("utf-8"), str(path), "exec")


class RulesTest(unittest.TestCase):
    def test_each_breach_is_found(self):
        for rule, source in BREACHES:
            found = [word for word, line in faults(source)]
            self.assertIn(rule, found, source)

    def test_plain_code_has_no_fault(self):
        source = (
            '"""A file."""\n\nfrom espalier.memory import Layout\n\nTABLE = (1, (2, "a"))\n\n\n'
            'class Box:\n    """A box."""\n\n    def __init__(self, rows):\n'
            '        self.rows = list(rows)\n\n    def first(self):\n'
            '        return self.rows[0] if self.rows else None\n\n\n'
            'def f(box):\n    return [box.first(), Layout(1, 2, 3), len(TABLE)]\n')
        self.assertEqual(faults(source), [])


if __name__ == "__main__":
    unittest.main()
