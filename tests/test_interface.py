import importlib
import inspect
import unittest

FUNCTIONS = {
    "platepiles.waiting": {
        "answers": ["deeds"],
        "piles_behind": ["deeds"],
        "least_of_windows": ["row", "width"],
    },
    "platepiles.ends": {
        "answers_at_ends": ["deeds"],
        "piles_at_ends": ["deeds"],
    },
}


class InterfaceTest(unittest.TestCase):
    def test_each_function_is_there_with_its_arguments(self):
        for module, functions in FUNCTIONS.items():
            for name, arguments in functions.items():
                with self.subTest(module=module, name=name):
                    function = getattr(importlib.import_module(module), name)
                    self.assertEqual(list(inspect.signature(function).parameters), arguments)
