"""Names at every door (point 3)."""

import string
import unittest

from manyboard.boards import Board
from manyboard.errors import NoName
from manyboard.trees import If, Mark, Program, Wait, While, Write

EMPTY = Program([])

# Every place where a name is wanted, each filled with one text and otherwise right.
DOORS = {
    "first cell": lambda text: Board([(text, ["v1", "v2"])]),
    "last cell": lambda text: Board([("c1", ["v1", "v2"]), ("c2", ["v1", "v2"]), (text, ["v1", "v2"])]),
    "first value": lambda text: Board([("c1", [text, "v2"])]),
    "second value": lambda text: Board([("c1", ["v1", text])]),
    "fourth value": lambda text: Board([("c1", ["v1", "v2", "v3", text])]),
    "value of the second cell": lambda text: Board([("c1", ["v1", "v2"]), ("c2", ["v1", text])]),
    "write's cell": lambda text: Write(text, "v1"),
    "write's value": lambda text: Write("c1", text),
    "wait's cell": lambda text: Wait(text, "v1"),
    "wait's value": lambda text: Wait("c1", text),
    "mark": lambda text: Mark(text),
    "if's cell": lambda text: If(text, "v1", EMPTY, EMPTY),
    "if's value": lambda text: If("c1", text, EMPTY, EMPTY),
    "while's cell": lambda text: While(text, "v1", EMPTY),
    "while's value": lambda text: While("c1", text, EMPTY),
}

NAMES = (
    list(string.ascii_lowercase)
    + ["a" + sign for sign in string.ascii_lowercase + string.digits]
    + ["abcdefghij", "zzzzzzzzzz", "a123456789", "z000000000", "skip", "else", "or", "x9y"]
)

# The percent sign is left out: no text handed in has it.
OTHER_SIGNS = [chr(code) for code in range(32, 127)
               if chr(code) not in string.ascii_lowercase + string.digits + chr(37)]

NO_NAMES = (
    ["", "abcdefghijk", "a1234567890", "a" * 40, "0", "9", "0a", "9abc", "1234567890", "00000000000"]
    + OTHER_SIGNS
    + ["a" + sign for sign in OTHER_SIGNS]
    + [sign + "a" for sign in OTHER_SIGNS]
    + ["abcdefghi" + sign for sign in OTHER_SIGNS]
    + ["Red", "RED", "reD", "red ", " red", "r d", "{red}", "re-d", "re_d", "  ", "{", "}", "{ }"]
)


class Names(unittest.TestCase):
    def test_names_are_let_by(self):
        for door, make in DOORS.items():
            for text in NAMES:
                with self.subTest(door, text=text):
                    make(text)

    def test_other_texts_are_refused_with_that_text(self):
        for door, make in DOORS.items():
            for text in NO_NAMES:
                with self.subTest(door, text=text):
                    with self.assertRaises(NoName) as caught:
                        make(text)
                    self.assertEqual(caught.exception.name, text)

    def test_the_cell_comes_ahead_of_the_value(self):
        makers = (Write, Wait, lambda cell, value: If(cell, value, EMPTY, EMPTY),
                  lambda cell, value: While(cell, value, EMPTY))
        for make in makers:
            with self.assertRaises(NoName) as caught:
                make("Cell", "Value")
            self.assertEqual(caught.exception.name, "Cell")


if __name__ == "__main__":
    unittest.main()
