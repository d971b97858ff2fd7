"""The interface: its names, their files, and their arguments."""

import importlib
import inspect
import unittest

FUNCTIONS = {
    ("trees", "tree"): "(plan, *, down=())",
    ("trees", "reach"): "(plan, hosts, source, *, to=None, down=())",
    ("notes", "written"): "(plan)",
    ("notes", "read"): "(text)",
}
CONSTANTS = {("tables", "KEEP"): 8, ("tables", "MOST_ROWS"): 12, ("yards", "GUARD"): 3}
CLASSES = {
    ("speakers", "Speaker"): {
        "__init__": "(self, plan, bridge)",
        "letters": "(self, *, down=())",
        "hear": "(self, road, letter)",
        "turn": "(self, *, down=())",
        "told": "(self)",
    },
    ("tables", "Table"): {
        "__init__": "(self, *, keep=8, most=12)",
        "learn": "(self, now, lan, host, port)",
        "forget": "(self, kind)",
        "strike": "(self, lan, host)",
        "find": "(self, now, lan, host)",
        "rows": "(self, now)",
    },
    ("yards", "Yard"): {
        "__init__": "(self, plan, *, keep=8, most=12, guard=3)",
        "plug": "(self, host, bridge, lan)",
        "unplug": "(self, host)",
        "cut": "(self, road, member)",
        "mend": "(self, road, member)",
        "tick": "(self)",
        "send": "(self, host, *, to=None, times=1)",
        "carry": "(self, road, member, *, back=False)",
        "is_open": "(self)",
        "rest": "(self)",
        "heard": "(self, host)",
        "rows": "(self, bridge)",
        "hosts": "(self)",
        "lying": "(self)",
        "down": "(self)",
        "together": "(self, deeds)",
        "log": "(self)",
        "tree": "(self)",
        "counts": "(self)",
    },
}
ERRORS = (
    "YardError", "BadPlan", "BadCount", "BadBridge", "BadRoad", "BadLan", "BadHost",
    "Plugged", "NotPlugged", "IsDown", "IsUp", "BadDeed", "BadText",
)


class InterfaceTest(unittest.TestCase):
    def found(self, file, word):
        module = importlib.import_module(f"bridgeyard.{file}")
        thing = getattr(module, word)
        self.assertEqual(thing.__module__, module.__name__)
        return thing

    def test_functions(self):
        for (file, word), arguments in FUNCTIONS.items():
            with self.subTest(word):
                self.assertEqual(str(inspect.signature(self.found(file, word))), arguments)

    def test_classes_and_their_methods(self):
        for (file, word), methods in CLASSES.items():
            kind = self.found(file, word)
            for method, arguments in methods.items():
                with self.subTest(f"{word}.{method}"):
                    self.assertEqual(str(inspect.signature(vars(kind)[method])), arguments)

    def test_constants(self):
        for (file, word), number in CONSTANTS.items():
            module = importlib.import_module(f"bridgeyard.{file}")
            with self.subTest(word):
                self.assertEqual(vars(module)[word], number)

    def test_errors(self):
        for word in ERRORS:
            with self.subTest(word):
                self.assertTrue(inspect.isclass(self.found("errors", word)))


if __name__ == "__main__":
    unittest.main()
