"""The board (points 2 to 5)."""

import unittest

from manyboard.boards import Board
from manyboard.errors import BadCount, BoardError, NoCell, NoName, Twice

LAMP = ("lamp", ["off", "on"])
DOOR = ("door", ["shut", "ajar", "wide"])
BELL = ("bell", ["still", "one", "two", "many"])


def refused(cells):
    """What a board of these cells is refused with, with its fields, or None."""
    try:
        Board(cells)
    except BoardError as error:
        return error.__class__, vars(error)
    return None


def bad_count(what, count):
    return BadCount, {"what": what, "count": count}


def no_name(name):
    return NoName, {"name": name}


def twice(name):
    return Twice, {"name": name}


class WhatABoardTells(unittest.TestCase):
    def test_cells_values_and_first_state(self):
        board = Board([LAMP, DOOR, BELL])
        self.assertEqual(board.cells(), ["lamp", "door", "bell"])
        self.assertEqual(board.values_of("lamp"), ["off", "on"])
        self.assertEqual(board.values_of("door"), ["shut", "ajar", "wide"])
        self.assertEqual(board.values_of("bell"), ["still", "one", "two", "many"])
        self.assertEqual(board.first(), ("off", "shut", "still"))

    def test_one_cell(self):
        board = Board([("z", ["b", "a"])])
        self.assertEqual(board.cells(), ["z"])
        self.assertEqual(board.values_of("z"), ["b", "a"])
        self.assertEqual(board.first(), ("b",))

    def test_kinds_of_what_is_told(self):
        board = Board([LAMP, DOOR])
        self.assertIsInstance(board.cells(), list)
        self.assertIsInstance(board.values_of("lamp"), list)
        self.assertIsInstance(board.first(), tuple)

    def test_arguments_by_name(self):
        board = Board(cells=[LAMP])
        self.assertEqual(board.values_of(cell="lamp"), ["off", "on"])

    def test_order_is_the_one_handed_in(self):
        self.assertEqual(Board([DOOR, LAMP]).cells(), ["door", "lamp"])
        self.assertEqual(Board([DOOR, LAMP]).first(), ("shut", "off"))

    def test_values_of_no_cell(self):
        board = Board([LAMP, DOOR])
        for text in ("bell", "off", "", "Lamp", "lamp ", "lam", "abcdefghijk", "9"):
            with self.subTest(text):
                with self.assertRaises(NoCell) as caught:
                    board.values_of(text)
                self.assertEqual(vars(caught.exception), {"name": text})

    def test_cells_may_share_values_and_a_value_may_be_called_as_a_cell(self):
        board = Board([("a", ["a", "b"]), ("b", ["a", "b"])])
        self.assertEqual(board.first(), ("a", "a"))


class WhatIsRefused(unittest.TestCase):
    def test_number_of_cells(self):
        many = [("c" + str(number), ["x", "y"]) for number in range(6)]
        for count in (1, 2, 3):
            self.assertIsNone(refused(many[:count]))
        for count in (0, 4, 5, 6):
            self.assertEqual(refused(many[:count]), bad_count("cells", count))

    def test_number_of_values(self):
        values = ["a", "b", "c", "d", "e", "f"]
        for count in (2, 3, 4):
            self.assertIsNone(refused([("x", values[:count])]))
            self.assertIsNone(refused([LAMP, DOOR, ("x", values[:count])]))
        for count in (0, 1, 5, 6):
            self.assertEqual(refused([("x", values[:count])]), bad_count("values", count))
            self.assertEqual(refused([LAMP, DOOR, ("x", values[:count])]), bad_count("values", count))

    def test_the_first_value_that_is_no_name(self):
        self.assertEqual(refused([("x", ["a", "B", "C", ""])]), no_name("B"))
        self.assertEqual(refused([("x", ["a", "b", "c", "9"])]), no_name("9"))

    def test_the_first_value_that_stands_ahead_of_itself(self):
        self.assertEqual(refused([("x", ["a", "a"])]), twice("a"))
        self.assertEqual(refused([("x", ["a", "b", "c", "a"])]), twice("a"))
        self.assertEqual(refused([("x", ["a", "b", "b", "a"])]), twice("b"))
        self.assertEqual(refused([("x", ["a", "b", "a", "b"])]), twice("a"))

    def test_the_first_cell_whose_name_stands_ahead(self):
        self.assertEqual(refused([LAMP, LAMP]), twice("lamp"))
        self.assertEqual(refused([LAMP, DOOR, ("lamp", ["x", "y"])]), twice("lamp"))
        self.assertEqual(refused([LAMP, DOOR, ("door", ["x", "y"])]), twice("door"))
        self.assertEqual(refused([LAMP, LAMP, LAMP]), twice("lamp"))


class WhichComesFirst(unittest.TestCase):
    def test_the_number_of_cells_ahead_of_all(self):
        self.assertEqual(refused([("", []), LAMP, LAMP, LAMP]), bad_count("cells", 4))
        self.assertEqual(refused([("x", ["a", "a"])] * 4), bad_count("cells", 4))

    def test_the_cell_name_ahead_of_the_number_of_values(self):
        for values in ([], ["a"], ["a", "b", "c", "d", "e"]):
            self.assertEqual(refused([("Lamp", values)]), no_name("Lamp"))

    def test_the_cell_name_ahead_of_the_values(self):
        self.assertEqual(refused([("Lamp", ["A", "A"])]), no_name("Lamp"))

    def test_the_number_of_values_ahead_of_a_value_that_is_no_name(self):
        self.assertEqual(refused([("x", ["A"])]), bad_count("values", 1))
        self.assertEqual(refused([("x", ["A", "b", "c", "d", "e"])]), bad_count("values", 5))

    def test_the_number_of_values_ahead_of_a_value_told_twice(self):
        self.assertEqual(refused([("x", ["a", "a", "a", "a", "a"])]), bad_count("values", 5))

    def test_a_value_that_is_no_name_ahead_of_one_told_twice(self):
        self.assertEqual(refused([("x", ["a", "a", "b", "C"])]), no_name("C"))
        self.assertEqual(refused([("x", ["A", "A"])]), no_name("A"))

    def test_cell_by_cell(self):
        self.assertEqual(refused([("x", ["a", "a"]), ("Y", ["a", "b"])]), twice("a"))
        self.assertEqual(refused([("x", ["a", "B"]), ("Y", ["a", "b"])]), no_name("B"))
        self.assertEqual(refused([("x", ["a"]), ("Y", ["a", "b"])]), bad_count("values", 1))
        self.assertEqual(refused([("X", ["a", "b"]), ("y", ["a"])]), no_name("X"))
        self.assertEqual(refused([LAMP, ("y", ["a", "a"]), ("z", [])]), twice("a"))

    def test_all_of_the_cells_ahead_of_a_cell_told_twice(self):
        self.assertEqual(refused([LAMP, LAMP, ("Z", ["a", "b"])]), no_name("Z"))
        self.assertEqual(refused([LAMP, LAMP, ("z", ["a"])]), bad_count("values", 1))
        self.assertEqual(refused([LAMP, LAMP, ("z", ["a", "B"])]), no_name("B"))
        self.assertEqual(refused([LAMP, LAMP, ("z", ["a", "a"])]), twice("a"))
        self.assertEqual(refused([LAMP, ("lamp", ["b", "b"])]), twice("b"))


class Equality(unittest.TestCase):
    def test_equal_boards(self):
        self.assertTrue(Board([LAMP, DOOR]) == Board([("lamp", ["off", "on"]), ("door", ["shut", "ajar", "wide"])]))
        self.assertFalse(Board([LAMP, DOOR]) != Board([LAMP, DOOR]))

    def test_boards_with_one_thing_otherwise(self):
        board = Board([LAMP, DOOR])
        others = (
            [("lamp", ["off", "on", "dim"]), DOOR],
            [("lamp", ["on", "off"]), DOOR],
            [("lamp", ["off", "dim"]), DOOR],
            [LAMP, ("door", ["shut", "wide", "ajar"])],
            [LAMP, ("door", ["shut", "ajar"])],
            [DOOR, LAMP],
            [("lamps", ["off", "on"]), DOOR],
            [LAMP, ("gate", ["shut", "ajar", "wide"])],
            [("lamp", ["shut", "ajar", "wide"]), ("door", ["off", "on"])],
            [LAMP],
            [LAMP, DOOR, BELL],
        )
        for cells in others:
            with self.subTest(cells):
                self.assertFalse(board == Board(cells))
                self.assertTrue(board != Board(cells))
                self.assertFalse(Board(cells) == board)

    def test_things_of_other_kinds(self):
        board = Board([LAMP])
        for thing in (None, 0, 1, True, "lamp", "", [LAMP], (LAMP,), ["lamp"], ("lamp", ("off", "on")),
                      (("lamp", ("off", "on")),), {}, {"lamp": ["off", "on"]}, NoCell("lamp"), object(), Board):
            with self.subTest(thing):
                self.assertFalse(board == thing)
                self.assertFalse(thing == board)
                self.assertTrue(board != thing)


class WhatIsChangedAfterwards(unittest.TestCase):
    def test_lists_handed_in_are_not_changed(self):
        cells = [("lamp", ["off", "on"]), ("door", ["shut", "wide"])]
        Board(cells)
        self.assertEqual(cells, [("lamp", ["off", "on"]), ("door", ["shut", "wide"])])

    def test_lists_handed_in_and_changed_afterwards(self):
        values = ["off", "on"]
        cells = [("lamp", values), ("door", ["shut", "wide"])]
        board = Board(cells)
        values.append("dim")
        values[0] = "red"
        cells[1] = ("gate", ["a", "b"])
        cells.append(BELL)
        self.assertEqual(board.cells(), ["lamp", "door"])
        self.assertEqual(board.values_of("lamp"), ["off", "on"])
        self.assertEqual(board.first(), ("off", "shut"))
        self.assertTrue(board == Board([("lamp", ["off", "on"]), ("door", ["shut", "wide"])]))

    def test_lists_told_and_changed_afterwards(self):
        board = Board([LAMP, DOOR])
        board.cells().append("bell")
        board.cells().clear()
        board.values_of("lamp").reverse()
        board.values_of("lamp").append("dim")
        self.assertEqual(board.cells(), ["lamp", "door"])
        self.assertEqual(board.values_of("lamp"), ["off", "on"])
        self.assertEqual(board.first(), ("off", "shut"))
        self.assertTrue(board == Board([LAMP, DOOR]))

    def test_each_list_told_is_a_new_one(self):
        board = Board([LAMP, DOOR])
        self.assertIsNot(board.cells(), board.cells())
        self.assertIsNot(board.values_of("lamp"), board.values_of("lamp"))

    def test_a_refused_call_changes_nothing(self):
        board = Board([LAMP])
        with self.assertRaises(NoCell):
            board.values_of("door")
        self.assertEqual(board.cells(), ["lamp"])
        self.assertTrue(board == Board([LAMP]))


if __name__ == "__main__":
    unittest.main()
