"""What .ci/run must do: run all tests, those of ../shared/tests too."""

import os
import pathlib
import shutil
import subprocess
import tempfile
import unittest

ROOT = pathlib.Path(__file__).resolve().parent.parent

PASSING = """
import unittest
from espalier.memory import Layout

class T(unittest.TestCase):
    def test(self):
        self.assertEqual(Layout(2, 4, 40).cells(), 49)
"""
FAILING = PASSING.replace("49", "50")
IMPORTS_NOTHING = "import espalier.no_such_module\n"


class RunTest(unittest.TestCase):
    def setUp(self):
        self.folder = pathlib.Path(tempfile.mkdtemp())
        self.addCleanup(shutil.rmtree, self.folder)
        self.checkout = self.folder / "checkout"
        ignored = shutil.ignore_patterns("__pycache__")
        shutil.copytree(ROOT / ".ci", self.checkout / ".ci")
        shutil.copytree(ROOT / "espalier", self.checkout / "espalier", ignore=ignored)
        self.put("checkout/tests/__init__.py", "")
        self.put("checkout/tests/test_one.py", PASSING)

    def put(self, name, text):
        path = self.folder / name
        path.parent.mkdir(parents=True, exist_ok=True)
        path.write_text(text, "utf-8")

    def passes(self):
        """Run the script as CI does; tell whether it accepts the checkout."""
        done = subprocess.run(
            [str(self.checkout / ".ci" / "run")], cwd=self.folder,
            stdout=subprocess.PIPE, stderr=subprocess.STDOUT, text=True)
        self.printed = done.stdout
        return done.returncode == 0

    def test_without_a_shared_folder(self):
        self.assertTrue(self.passes(), self.folder)

    def test_a_failing_test_of_the_project(self):
        self.put("checkout/tests/test_two.py", FAILING)
        self.assertFalse(self.passes())
        self.assertIn("test_two", self.printed)

    def test_a_shared_folder_without_a_test(self):
        self.put("shared/tests/README.md", "No test yet.\n")
        self.put("shared/tests/other.py", FAILING)
        self.assertTrue(self.passes(), self.folder)

    def test_shared_tests_that_pass(self):
        self.put("shared/tests/test_one.py", PASSING)
        self.put("shared/tests/test_two.py", PASSING)
        self.assertTrue(self.passes(), self.folder)
        for name in ("test_one.py", "test_two.py"):
            self.assertIn("../shared/tests/" + name, self.printed)

    def test_each_shared_test_can_fail_the_run(self):
        for name in ("test_one.py", "test_two.py", "test_three.py"):
            for other in ("test_one.py", "test_two.py", "test_three.py"):
                self.put("shared/tests/" + other, FAILING if other == name else PASSING)
            self.assertFalse(self.passes(), name)

    def test_a_shared_test_that_cannot_be_imported(self):
        self.put("shared/tests/test_one.py", IMPORTS_NOTHING)
        self.assertFalse(self.passes())

    def test_a_shared_test_in_a_folder_of_its_own(self):
        self.put("shared/tests/stage/test_one.py", FAILING)
        self.assertFalse(self.passes())

    def test_the_run_leaves_nothing_in_the_package(self):
        self.assertTrue(self.passes())
        found = sorted(os.listdir(self.checkout / "espalier"))
        self.assertNotIn("__pycache__", found)


if __name__ == "__main__":
    unittest.main()
