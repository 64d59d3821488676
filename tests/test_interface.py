"""The interface: each name is defined in its file, with its arguments; each method in its class itself."""
import importlib
import inspect
import unittest

FUNCTIONS = {
    "armwarrant.shapes.vectors": {
        "root_up": "(number)",
        "divide_up": "(number, divisor)",
        "dot": "(first, second)",
        "plus": "(first, second)",
        "minus": "(first, second)",
        "scaled": "(vector, factor)",
        "length_up": "(vector)",
        "greatest": "(vector)",
    },
    "armwarrant.shapes.gaps": {"place_gap": "(place, start, end)"},
    "armwarrant.shapes.lines": {"line_gap": "(first, second)"},
    "armwarrant.shapes.boxes": {"box_gap": "(line, low, high)"},
}

CLASSES = {
    "armwarrant.shapes.gaps": {
        "Gap": {
            "__init__": "(self, vector, scale)",
            "beyond": "(self, distance)",
            "within": "(self, distance)",
            "shorter": "(self, other)",
        },
    },
}


class TestInterface(unittest.TestCase):
    def test_functions(self):
        for module, functions in FUNCTIONS.items():
            for name, arguments in functions.items():
                with self.subTest(module=module, name=name):
                    found = getattr(importlib.import_module(module), name)
                    self.assertTrue(inspect.isfunction(found))
                    self.assertEqual(found.__module__, module)
                    self.assertEqual(str(inspect.signature(found)), arguments)

    def test_classes(self):
        for module, classes in CLASSES.items():
            for name, methods in classes.items():
                found = getattr(importlib.import_module(module), name)
                self.assertEqual(found.__module__, module)
                for method, arguments in methods.items():
                    with self.subTest(module=module, name=name, method=method):
                        self.assertIn(method, vars(found))
                        self.assertEqual(str(inspect.signature(vars(found)[method])), arguments)


if __name__ == "__main__":
    unittest.main()
