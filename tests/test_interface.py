"""The interface: names, arguments in their order, and where each thing is defined."""

import importlib
import inspect
import unittest

# File, class, arguments of making one, methods with their arguments.
CLASSES = [
    ("boards", "Board", ["cells"], {"cells": [], "values_of": ["cell"], "first": []}),
    ("trees", "Write", ["cell", "value"], {}),
    ("trees", "Wait", ["cell", "value"], {}),
    ("trees", "Mark", ["name"], {}),
    ("trees", "Skip", [], {}),
    ("trees", "Stop", [], {}),
    ("trees", "If", ["cell", "value", "yes", "no"], {}),
    ("trees", "While", ["cell", "value", "body"], {}),
    ("trees", "Choose", ["one", "other"], {}),
    ("trees", "Loop", ["body"], {}),
    ("trees", "Program", ["statements"], {}),
    ("rooms", "Machine", ["board", "program"], {
        "rooms": [], "steps": ["room"], "mark_of": ["room"], "marks": []}),
    ("games", "Game", ["board", "leader", "follower"], {
        "machine": ["which"], "board": [], "begin": ["many"], "moves": ["standing"], "moved": ["standing", "move"],
        "played": ["many", "moves"], "stops_at": ["many", "moves"]}),
    ("questions", "Question", ["lead", "follows", "holds"], {}),
    ("hall", "Hall", ["game"], {
        "game": [], "join": [], "leave": ["hand"], "move": ["hand", "step"], "standing": [], "meets": ["question"],
        "story": [], "bar": ["name", "question"], "bars": [], "lift": ["name"]}),
    ("desk", "Desk", ["rows"], {"tell": ["row"]}),
    ("errors", "BoardError", [], {"told": []}),
    ("errors", "BadCount", ["what", "count"], {"told": []}),
    ("errors", "NoName", ["name"], {"told": []}),
    ("errors", "Twice", ["name"], {"told": []}),
    ("errors", "NoCell", ["name"], {"told": []}),
    ("errors", "NoValue", ["cell", "value"], {"told": []}),
    ("errors", "BadText", ["place"], {"told": []}),
    ("errors", "NoRoom", ["room"], {"told": []}),
    ("errors", "NoHand", ["hand"], {"told": []}),
    ("errors", "NoStep", ["step"], {"told": []}),
    ("errors", "Shut", ["cell", "value"], {"told": []}),
    ("errors", "NoMark", ["name"], {"told": []}),
    ("errors", "Wide", ["count"], {"told": []}),
    ("errors", "Never", [], {"told": []}),
    ("errors", "Beyond", ["count"], {"told": []}),
    ("errors", "Full", [], {"told": []}),
    ("errors", "NoBar", ["name"], {"told": []}),
    ("errors", "Barred", ["many", "deeds"], {"told": []}),
    ("errors", "BadRow", ["row"], {"told": []}),
]

# File, function, arguments.
FUNCTIONS = [
    ("reading", "read_program", ["text"]),
    ("lefts", "left", ["board", "row"]),
    ("questions", "met", ["game", "question", "standing"]),
    ("crowds", "gathered", ["game", "state", "rooms"]),
    ("crowds", "entries", ["game"]),
    ("sheets", "amiss", ["game", "sheet"]),
    ("sheets", "shuts_out", ["game", "sheet", "question"]),
    ("sheets", "brings", ["game", "many", "moves", "question"]),
    ("ways", "may", ["game", "question"]),
    ("ways", "way", ["game", "question"]),
    ("ways", "marks_met", ["game"]),
    ("trimming", "trimmed", ["game"]),
    ("counts", "standings", ["game", "many"]),
    ("counts", "least", ["game", "question"]),
    ("likeness", "like", ["board", "one", "other"]),
    ("likeness", "stands_in", ["board", "one", "other"]),
    ("hall", "told_again", ["game", "story"]),
    ("texts", "game_rows", ["game"]),
    ("texts", "read_game", ["rows"]),
    ("texts", "question_row", ["question"]),
    ("texts", "read_question", ["text"]),
    ("texts", "move_row", ["move"]),
    ("texts", "read_move", ["text"]),
]


def arguments(function):
    """The names of a method's arguments behind its own object."""
    return list(inspect.signature(function).parameters)[1:]


class Interface(unittest.TestCase):
    def test_classes_stand_in_their_files(self):
        for file, name, _, _ in CLASSES:
            with self.subTest(name):
                module = importlib.import_module("manyboard." + file)
                self.assertEqual(getattr(module, name).__module__, "manyboard." + file)

    def test_arguments_of_making_one(self):
        for file, name, wanted, _ in CLASSES:
            with self.subTest(name):
                made = getattr(importlib.import_module("manyboard." + file), name)
                self.assertEqual(arguments(made.__init__) if wanted else [], wanted)

    def test_methods_stand_in_the_class_itself(self):
        for file, name, _, methods in CLASSES:
            made = getattr(importlib.import_module("manyboard." + file), name)
            for method, wanted in methods.items():
                with self.subTest(name, method=method):
                    self.assertIn(method, vars(made))
                    self.assertEqual(arguments(vars(made)[method]), wanted)

    def test_functions_stand_in_their_files(self):
        for file, name, wanted in FUNCTIONS:
            with self.subTest(name):
                function = getattr(importlib.import_module("manyboard." + file), name)
                self.assertEqual(function.__module__, "manyboard." + file)
                self.assertTrue(inspect.isfunction(function))
                self.assertEqual(list(inspect.signature(function).parameters), wanted)

    def test_what_may_be_left_out(self):
        for file, name, _, methods in CLASSES:
            made = getattr(importlib.import_module("manyboard." + file), name)
            with self.subTest(name):
                makers = [made.__init__] if "__init__" in vars(made) else []
                kept = [parameter.default for function in makers + [vars(made)[method] for method in methods]
                        for parameter in inspect.signature(function).parameters.values()]
                told = [worth for worth in kept if worth is not inspect.Parameter.empty]
                self.assertEqual(told, [None, None, None] if name == "Question" else [])


if __name__ == "__main__":
    unittest.main()
