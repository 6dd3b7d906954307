"""The interface: names, arguments, and the files in which they are defined."""

import importlib
import inspect
import unittest

FUNCTIONS = {
    "numbers": {"read_number": ["text"], "write_number": ["pair"], "less": ["a", "b"], "position": ["number", "among"],
                "number_for": ["position", "among"]},
    "questions": {"read_question": ["text", "names"], "write_question": ["tree"], "parts": ["tree"]},
    "meaning": {"meaning": ["tree", "row"]},
    "memory": {"first_cells": ["tree"], "hear_cells": ["tree", "cells", "name", "number"]},
    "arenas": {"arena": ["plant", "orders"], "can": ["plant", "orders", "row"]},
    "papers": {"papers": ["plant", "orders"], "check": ["plant", "orders", "given"]},
    "rooms": {"resume": ["plant", "kept"]},
    "journals": {"write_journal": ["events"]},
    "replays": {"read_journal": ["plant", "text"], "replay": ["plant", "text"]},
    "audits": {"audit": ["plant", "text"]},
}
CLASSES = {
    ("plants", "Plant"): {"__init__": ["names", "devices", "questions"], "shapes": [], "point": ["row"], "look": ["row"]},
    ("rooms", "Room"): {
        "__init__": ["plant", "orders"], "hear": ["row"], "state": [], "move": [], "play": [], "safe": [],
        "pass_by": ["record", "patience"], "order": ["orders"], "would": ["orders"], "trust": ["given"], "clashes": [],
        "apart": ["i", "j"], "soonest": ["q"], "kept": [], "journal": [], "twin": []},
    ("others", "Others"): {"__init__": ["plant", "orders", "row"], "hear": ["record"], "move": []},
    ("errors", "PlantError"): {"__init__": ["what", "at"]},
    ("errors", "RowError"): {"__init__": ["at"]},
    ("errors", "JournalError"): {"__init__": ["what", "at"]},
}


class InterfaceTest(unittest.TestCase):
    def test_functions(self):
        for file, functions in FUNCTIONS.items():
            module = importlib.import_module(f"keeproom.{file}")
            for name, arguments in functions.items():
                function = getattr(module, name)
                self.assertEqual(function.__module__, module.__name__)
                self.assertEqual(list(inspect.signature(function).parameters), arguments, name)

    def test_classes(self):
        for (file, name), methods in CLASSES.items():
            module = importlib.import_module(f"keeproom.{file}")
            found = getattr(module, name)
            self.assertEqual(found.__module__, module.__name__)
            for method, arguments in methods.items():
                self.assertIn(method, vars(found))
                self.assertEqual(list(inspect.signature(vars(found)[method]).parameters), ["self"] + arguments, method)


if __name__ == "__main__":
    unittest.main()
