"""Machines (points 2, 12, 13 and 19)."""

import unittest

from manyboard.boards import Board
from manyboard.errors import BoardError, NoCell, NoRoom, NoValue
from manyboard.lefts import left
from manyboard.reading import read_program
from manyboard.rooms import Machine
from manyboard.trees import Choose, If, Loop, Mark, Program, Skip, Stop, Wait, While, Write

BOARD = Board([("c", ["a", "b"]), ("d", ["x", "y", "z"])])

EMPTY = Program([])
GO = ("go",)


def look(cell, value):
    return ("look", cell, value)


def put(cell, value):
    return ("put", cell, value)


def steps_of(text):
    """The steps of all rooms of the machine of a text, room by room."""
    machine = Machine(BOARD, read_program(text))
    return [machine.steps(room) for room in range(machine.rooms())]


def targets_of(text):
    """Where the steps lead, room by room."""
    return [[room for _, room in steps] for steps in steps_of(text)]


def refused(program):
    """What the machine of a program is refused with, with its fields, or None."""
    try:
        Machine(BOARD, program)
    except BoardError as error:
        return error.__class__, vars(error)
    return None


class Steps(unittest.TestCase):
    def test_the_empty_program_is_its_end(self):
        machine = Machine(BOARD, EMPTY)
        self.assertEqual(machine.rooms(), 1)
        self.assertEqual(machine.steps(0), [])
        self.assertIsNone(machine.mark_of(0))
        self.assertEqual(machine.marks(), [])

    def test_each_statement_without_others_within(self):
        self.assertEqual(steps_of("write c b"), [[(put("c", "b"), 1)], []])
        self.assertEqual(steps_of("wait d y"), [[(look("d", "y"), 1)], []])
        self.assertEqual(steps_of("mark m"), [[(GO, 1)], []])
        self.assertEqual(steps_of("skip"), [[(GO, 1)], []])
        self.assertEqual(steps_of("stop"), [[], []])

    def test_one_behind_the_other(self):
        self.assertEqual(
            steps_of("skip write c a stop wait d z mark m"),
            [[(GO, 1)], [(put("c", "a"), 2)], [], [(look("d", "z"), 4)], [(GO, 5)], []])

    def test_if(self):
        self.assertEqual(
            steps_of("if d y { skip stop } else { mark m } skip"),
            [[(look("d", "y"), 1), (look("d", "x"), 3), (look("d", "z"), 3)],
             [(GO, 2)], [], [(GO, 4)], [(GO, 5)], []])

    def test_if_with_empty_rows(self):
        self.assertEqual(targets_of("if c b { } else { skip } skip"), [[2, 1], [2], [3], []])
        self.assertEqual(targets_of("if c b { skip } else { } skip"), [[1, 2], [2], [3], []])
        self.assertEqual(targets_of("if d y { } else { } skip"), [[1, 1, 1], [2], []])
        self.assertEqual(targets_of("if d y { } else { }"), [[1, 1, 1], []])
        self.assertEqual(targets_of("skip loop { if c a { } else { } }"), [[1], [2], [1, 1], []])

    def test_while(self):
        self.assertEqual(
            steps_of("while d z { skip mark m } stop"),
            [[(look("d", "z"), 1), (look("d", "x"), 3), (look("d", "y"), 3)], [(GO, 2)], [(GO, 0)], [], []])

    def test_an_empty_body_goes_back_to_its_statement(self):
        self.assertEqual(targets_of("skip while d x { } skip"), [[1], [1, 2, 2], [3], []])
        self.assertEqual(targets_of("skip loop { } skip"), [[1], [1], [3], []])
        self.assertEqual(targets_of("loop { }"), [[0], []])
        self.assertEqual(targets_of("loop { while c a { } }"), [[1], [1, 0], []])

    def test_choose(self):
        self.assertEqual(
            steps_of("choose { skip skip } or { stop write c a } mark m"),
            [[(GO, 1), (GO, 3)], [(GO, 2)], [(GO, 5)], [], [(put("c", "a"), 5)], [(GO, 6)], []])

    def test_choose_with_empty_rows(self):
        self.assertEqual(targets_of("choose { } or { skip } skip"), [[2, 1], [2], [3], []])
        self.assertEqual(targets_of("choose { skip } or { } skip"), [[1, 2], [2], [3], []])
        self.assertEqual(targets_of("choose { } or { }"), [[1, 1], []])
        self.assertEqual(targets_of("loop { choose { } or { } }"), [[1], [0, 0], []])

    def test_loop(self):
        self.assertEqual(steps_of("loop { skip write d y } mark m"),
                         [[(GO, 1)], [(GO, 2)], [(put("d", "y"), 0)], [(GO, 4)], []])

    def test_rows_within_rows(self):
        text = "loop { if c a { while d x { choose { skip } or { mark m } } skip } else { loop { stop } } } skip"
        # 0 loop, 1 if, 2 while, 3 choose, 4 skip, 5 mark, 6 skip, 7 loop, 8 stop, 9 skip, 10 the end
        self.assertEqual(targets_of(text), [[1], [2, 7], [3, 6, 6], [4, 5], [2], [2], [0], [8], [], [10], []])

    def test_the_last_of_a_row_goes_where_the_row_goes(self):
        # 0 if, 1 if, 2 skip, 3 if, 4 skip, 5 the end
        self.assertEqual(targets_of("if c a { if c a { skip } else { } } else { if c a { } else { skip } }"),
                         [[1, 3], [2, 5], [5], [5, 4], [5], []])
        # 0 choose, 1 loop, 2 choose, 3 skip, 4 skip, 5 the end
        self.assertEqual(targets_of("choose { loop { choose { skip } or { } } } or { } skip"),
                         [[1, 4], [2], [3, 1], [1], [5], []])

    def test_behind_a_stop_stands_a_room_too(self):
        self.assertEqual(targets_of("stop skip loop { stop mark m }"), [[], [2], [3], [], [2], []])

    def test_the_longest_one(self):
        machine = Machine(BOARD, Program([Skip()] * 24))
        self.assertEqual(machine.rooms(), 25)
        self.assertEqual([machine.steps(room) for room in range(24)], [[(GO, room + 1)] for room in range(24)])
        self.assertEqual(machine.steps(24), [])

    def test_by_names(self):
        machine = Machine(board=BOARD, program=read_program("mark m"))
        self.assertEqual(machine.steps(room=0), [(GO, 1)])
        self.assertEqual(machine.mark_of(room=0), "m")


class TheSameObjectAtSeveralPlaces(unittest.TestCase):
    def test_one_statement(self):
        skip = Skip()
        machine = Machine(BOARD, Program([skip, skip, skip]))
        self.assertEqual([machine.steps(room) for room in range(4)], [[(GO, 1)], [(GO, 2)], [(GO, 3)], []])

    def test_one_loop(self):
        loop = While("c", "a", Program([Skip()]))
        machine = Machine(BOARD, Program([loop, loop]))
        self.assertEqual([[to for _, to in machine.steps(room)] for room in range(5)],
                         [[1, 2], [0], [3, 4], [2], []])

    def test_one_program(self):
        inner = Program([Mark("m"), Skip()])
        program = Program([If("c", "a", inner, inner), Loop(inner), Choose(inner, inner)])
        machine = Machine(BOARD, program)
        # 0 if, 1 2 and 3 4 its rows, 5 loop, 6 7 its body, 8 choose, 9 10 and 11 12 its rows, 13 the end
        self.assertEqual([[to for _, to in machine.steps(room)] for room in range(14)],
                         [[1, 3], [2], [5], [4], [5], [6], [7], [5], [9, 11], [10], [13], [12], [13], []])
        self.assertEqual([room for room in range(14) if machine.mark_of(room) == "m"], [1, 3, 6, 9, 11])

    def test_one_statement_at_several_depths(self):
        inner = Loop(Program([Mark("m")]))
        machine = Machine(BOARD, Program([Choose(Program([inner, inner]), Program([inner])), inner]))
        # 0 choose, 1 2, 3 4, 5 6, 7 8 the loops with their marks, 9 the end
        self.assertEqual([[to for _, to in machine.steps(room)] for room in range(10)],
                         [[1, 5], [2], [1], [4], [3], [6], [5], [8], [7], []])


class Marks(unittest.TestCase):
    def test_mark_of(self):
        machine = Machine(BOARD, read_program("skip mark m loop { mark b stop } write c a mark m"))
        self.assertEqual([machine.mark_of(room) for room in range(machine.rooms())],
                         [None, "m", None, "b", None, None, "m", None])

    def test_names_sorted_and_each_once(self):
        machine = Machine(BOARD, read_program(
            "mark z loop { mark b mark z } stop if c a { mark a1 } else { mark b } choose { mark a } or { mark z }"))
        self.assertEqual(machine.marks(), ["a", "a1", "b", "z"])

    def test_no_mark(self):
        self.assertEqual(Machine(BOARD, read_program("skip loop { stop }")).marks(), [])


class Refusals(unittest.TestCase):
    def test_a_number_that_is_no_room(self):
        machine = Machine(BOARD, read_program("skip loop { mark m }"))
        self.assertEqual(machine.rooms(), 4)
        for room in (-1, -2, -4, -5, 4, 5, 100):
            for ask in (machine.steps, machine.mark_of):
                with self.subTest(room=room):
                    with self.assertRaises(NoRoom) as caught:
                        ask(room)
                    self.assertEqual(vars(caught.exception), {"room": room})

    def test_cells_and_values_of_each_statement(self):
        for make in (lambda cell, value: Write(cell, value), lambda cell, value: Wait(cell, value),
                     lambda cell, value: If(cell, value, EMPTY, EMPTY),
                     lambda cell, value: While(cell, value, EMPTY)):
            self.assertIsNone(refused(Program([make("d", "z")])))
            self.assertEqual(refused(Program([make("e", "a")])), (NoCell, {"name": "e"}))
            self.assertEqual(refused(Program([make("e", "e")])), (NoCell, {"name": "e"}))
            self.assertEqual(refused(Program([make("c", "x")])), (NoValue, {"cell": "c", "value": "x"}))

    def test_wherever_it_stands(self):
        bad = Program([Skip(), Write("c", "x")])
        wanted = (NoValue, {"cell": "c", "value": "x"})
        for statement in (Loop(bad), While("c", "a", bad), If("c", "a", bad, EMPTY), If("c", "a", EMPTY, bad),
                          Choose(bad, EMPTY), Choose(EMPTY, bad), Loop(Program([Loop(bad)]))):
            self.assertEqual(refused(Program([Stop(), statement, Skip()])), wanted)

    def test_the_first_in_the_order_of_the_text(self):
        for text, wanted in (
            ("write c x wait e a", (NoValue, {"cell": "c", "value": "x"})),
            ("wait e a write c x", (NoCell, {"name": "e"})),
            ("if e a { write c x } else { }", (NoCell, {"name": "e"})),
            ("while c x { wait e a }", (NoValue, {"cell": "c", "value": "x"})),
            ("loop { write c x } wait e a", (NoValue, {"cell": "c", "value": "x"})),
            ("if c a { skip } else { wait f a } wait e a", (NoCell, {"name": "f"})),
            ("if c a { wait d a } else { wait f a } wait e a", (NoValue, {"cell": "d", "value": "a"})),
            ("choose { loop { skip } } or { while g a { } } write c x", (NoCell, {"name": "g"})),
            ("choose { wait c y } or { while g a { } }", (NoValue, {"cell": "c", "value": "y"})),
        ):
            with self.subTest(text):
                self.assertEqual(refused(read_program(text)), wanted)


class ListsOfTheAskers(unittest.TestCase):
    def test_what_was_told_may_be_changed(self):
        machine = Machine(BOARD, read_program("if c a { mark m } else { mark b }"))
        for ask in (lambda: machine.steps(0), machine.marks):
            told = ask()
            self.assertIsInstance(told, list)
            kept = list(told)
            told.append("more")
            del told[0]
            self.assertEqual(ask(), kept)

    def test_steps_are_tuples(self):
        for step in Machine(BOARD, read_program("if c a { mark m } else { mark b }")).steps(0):
            self.assertIsInstance(step, tuple)
            self.assertIsInstance(step[0], tuple)

    def test_a_list_of_statements_changed_afterwards(self):
        statements = [Skip(), Mark("m")]
        machine = Machine(BOARD, Program(statements))
        statements.clear()
        self.assertEqual(machine.rooms(), 3)


class MachineAndText(unittest.TestCase):
    TEXTS = [
        "", "stop", "skip", "loop { }", "while c a { }", "if c a { } else { }", "choose { } or { }",
        "loop { if c a { while d x { choose { skip } or { mark m } } skip } else { loop { stop } } } skip",
        "write c a wait c b mark m skip if d y { write d z } else { write d x } while c a { write c b } "
        "choose { stop } or { loop { wait d z } }",
        "while d x { while c a { while d y { } } } loop { loop { loop { choose { } or { mark in } } } }",
        "choose { choose { } or { skip } } or { if c b { choose { stop } or { } } else { } } mark m mark m",
        "loop { while c b { if d z { } else { write d z } write c a } choose { write c b } or { } }",
        "stop loop { skip } write c a",
    ]

    def same_all_along(self, program):
        """Goes along all steps of the machine and of the text, by their numbers, side by side."""
        machine = Machine(BOARD, program)
        waiting = [(0, list(program.row))]
        seen = set()
        while waiting:
            room, row = waiting.pop()
            key = (room, tuple(id(statement) for statement in row))
            if key in seen:
                continue
            seen.add(key)
            steps, told = machine.steps(room), left(BOARD, row)
            self.assertEqual([act for act, _ in steps], [act for act, _ in told])
            self.assertEqual(machine.mark_of(room), row[0].name if row and isinstance(row[0], Mark) else None)
            waiting.extend((to, rest) for (_, to), (_, rest) in zip(steps, told))
        return {room for room, _ in seen}

    def test_texts(self):
        for text in self.TEXTS:
            with self.subTest(text):
                self.same_all_along(read_program(text))

    def test_all_rooms_of_one_without_a_stop_or_a_loop_are_gone_along(self):
        program = read_program(
            "write c a wait c b mark m skip if d y { write d z } else { write d x } while c a { write c b } "
            "choose { while d x { } } or { skip }")
        self.assertEqual(self.same_all_along(program), set(range(13)))

    def test_the_same_objects_at_several_places(self):
        inner = Program([Skip(), While("c", "a", Program([Mark("m")]))])
        self.same_all_along(Program([Choose(inner, inner), If("d", "y", inner, inner), Loop(inner)]))


if __name__ == "__main__":
    unittest.main()
