import pathlib
import re
import unittest

from tests.form import faults, package_faults

PACKAGE = pathlib.Path(__file__).resolve().parent.parent / "platepiles"


class PackageFormTest(unittest.TestCase):
    def files(self):
        return [path for path in sorted(PACKAGE.rglob("*")) if "__pycache__" not in path.parts]

    def test_only_plainly_named_python_files(self):
        self.assertIn(PACKAGE / "__init__.py", self.files())
        for path in self.files():
            with self.subTest(path=path.name):
                self.assertTrue(path.is_file())
                self.assertTrue(re.fullmatch(r"[a-z0-9_]+\.py", path.name))
                self.assertFalse(path.name.startswith("test"))

    def test_no_clock_chance_files_nor_other_code_outside_the_rules(self):
        for path in self.files():
            with self.subTest(path=path.name):
                self.assertEqual(faults(path.read_bytes().decode("utf-8")), [])

    def test_methods_and_values_over_all_files(self):
        self.assertEqual(package_faults([path.read_text("utf-8") for path in self.files()]), [])


class FaultsTest(unittest.TestCase):
    def test_good_code_has_none(self):
        self.assertEqual(faults('"""Words."""\nfrom platepiles.errors import NoWidth\n\n\nnumber = 1\n'), [])
        self.assertEqual(faults("x = y is None\nz = y is not True\n"), [])
        own = "class A:\n    def m(self):\n        self.x = 1\n"
        self.assertEqual(package_faults([own, "a.m()\nb.append(1)\n"]), [])

    def test_each_kind_is_found(self):
        wrong = (
            "import time", "from random import random", "from .errors import NoWidth",
            "from platepiles.errors import *", "x = open('f')", "x = input()", "print(1)", "x = 1.5", "x = 1 / 2",
            "x = {a for a in b}", "x = list(a for a in b)", "with a:\n    pass", "del x", "assert x", "x = b''",
            "def f(*rest):\n    return max(*rest)", "def _f():\n    pass", "self._x = 1", "@a\ndef f():\n    pass",
            "# the type of it", "# \u00e9", "if x:\n\ty = 1", "# " + "x" * 120,
            "def f():\n" + "    x = 1\n" * 40, "x = 1\n" * 401, "x = y = 1", "x, y = 1, 2", "z = x is y",
            "z = x is not 0", "for x in y:\n    pass\nelse:\n    pass", "try:\n    pass\nfinally:\n    pass",
        )
        for source in wrong:
            with self.subTest(source=source[:40]):
                self.assertNotEqual(faults(source), [])

    def test_each_kind_over_several_files_is_found(self):
        own = "class A:\n    def m(self):\n        pass\n"
        self.assertNotEqual(package_faults([own, "a.m = 1\n"]), [])
        self.assertNotEqual(package_faults([own, "a.sort()\n"]), [])
