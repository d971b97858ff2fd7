"""The interface that has landed: its names, their files, and their arguments."""

import importlib
import inspect
import unittest

FUNCTIONS = {
    ("trees", "tree"): "(plan, *, down=())",
    ("trees", "reach"): "(plan, hosts, source, *, to=None, down=())",
}
CLASSES = {
    ("speakers", "Speaker"): {
        "__init__": "(self, plan, bridge)",
        "letters": "(self, *, down=())",
        "hear": "(self, road, letter)",
        "turn": "(self, *, down=())",
        "told": "(self)",
    },
}
ERRORS = (
    "YardError", "BadPlan", "BadCount", "BadBridge", "BadRoad", "BadLan", "BadHost",
    "Plugged", "NotPlugged", "IsDown", "IsUp", "BadDeed", "BadText",
)


class InterfaceTest(unittest.TestCase):
    def found(self, file, word):
        module = importlib.import_module(f"bridgeyard.{file}")
        thing = getattr(module, word)
        self.assertEqual(thing.__module__, module.__name__)
        return thing

    def test_functions(self):
        for (file, word), arguments in FUNCTIONS.items():
            with self.subTest(word):
                self.assertEqual(str(inspect.signature(self.found(file, word))), arguments)

    def test_classes_and_their_methods(self):
        for (file, word), methods in CLASSES.items():
            kind = self.found(file, word)
            for method, arguments in methods.items():
                with self.subTest(f"{word}.{method}"):
                    self.assertEqual(str(inspect.signature(vars(kind)[method])), arguments)

    def test_errors(self):
        for word in ERRORS:
            with self.subTest(word):
                self.assertTrue(inspect.isclass(self.found("errors", word)))


if __name__ == "__main__":
    unittest.main()
