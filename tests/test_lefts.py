"""What is left of a row behind a step (points 2 and 11)."""

import unittest

from manyboard.boards import Board
from manyboard.errors import BoardError, NoCell, NoValue
from manyboard.lefts import left
from manyboard.trees import Choose, If, Loop, Mark, Program, Skip, Stop, Wait, While, Write

BOARD = Board([("two", ["a", "b"]), ("three", ["a", "b", "c"]), ("four", ["a", "b", "c", "d"])])

EMPTY = Program([])
REST = [Mark("behind"), Stop()]
ONE = [Skip(), Mark("one")]
OTHER = [Mark("other")]

# The values of each cell in the order in which they are looked at, by the value that is told.
LOOKS = {
    ("two", "a"): ["a", "b"],
    ("two", "b"): ["b", "a"],
    ("three", "a"): ["a", "b", "c"],
    ("three", "b"): ["b", "a", "c"],
    ("three", "c"): ["c", "a", "b"],
    ("four", "a"): ["a", "b", "c", "d"],
    ("four", "b"): ["b", "a", "c", "d"],
    ("four", "c"): ["c", "a", "b", "d"],
    ("four", "d"): ["d", "a", "b", "c"],
}


def look(cell, value):
    return ("look", cell, value)


def refused(statement, rest=()):
    """What the row of a statement is refused with, with its fields, or None."""
    try:
        left(BOARD, [statement] + list(rest))
    except BoardError as error:
        return error.__class__, vars(error)
    return None


class EachStatement(unittest.TestCase):
    def check(self, row, wanted):
        told = left(BOARD, row)
        self.assertEqual(told, wanted)
        self.assertIsInstance(told, list)
        for step in told:
            self.assertIsInstance(step, tuple)
            self.assertIsInstance(step[0], tuple)
            self.assertIsInstance(step[1], list)

    def test_no_step(self):
        self.check([], [])
        self.check([Stop()], [])
        self.check([Stop(), Skip(), Mark("m")], [])

    def test_statements_of_one_step(self):
        for rest in ([], REST):
            for cell, value in LOOKS:
                self.check([Write(cell, value)] + rest, [(("put", cell, value), rest)])
                self.check([Wait(cell, value)] + rest, [(("look", cell, value), rest)])
            self.check([Mark("m")] + rest, [(("go",), rest)])
            self.check([Skip()] + rest, [(("go",), rest)])

    def test_if(self):
        for (cell, value), values in LOOKS.items():
            for rest in ([], REST):
                for yes, no in ((ONE, OTHER), (ONE, []), ([], OTHER), ([], [])):
                    statement = If(cell, value, Program(yes), Program(no))
                    wanted = [(look(cell, values[0]), yes + rest)]
                    wanted += [(look(cell, other), no + rest) for other in values[1:]]
                    self.check([statement] + rest, wanted)

    def test_while(self):
        for (cell, value), values in LOOKS.items():
            for rest in ([], REST):
                for body in (ONE, []):
                    statement = While(cell, value, Program(body))
                    wanted = [(look(cell, values[0]), body + [statement] + rest)]
                    wanted += [(look(cell, other), rest) for other in values[1:]]
                    self.check([statement] + rest, wanted)

    def test_choose(self):
        for rest in ([], REST):
            for one, other in ((ONE, OTHER), (ONE, []), ([], OTHER), ([], []), (ONE, ONE)):
                self.check([Choose(Program(one), Program(other))] + rest,
                           [(("go",), one + rest), (("go",), other + rest)])

    def test_loop(self):
        for rest in ([], REST):
            for body in (ONE, []):
                statement = Loop(Program(body))
                self.check([statement] + rest, [(("go",), body + [statement] + rest)])

    def test_only_the_first_statement_steps(self):
        self.check([Skip(), Write("two", "a"), Wait("two", "b")],
                   [(("go",), [Write("two", "a"), Wait("two", "b")])])

    def test_a_longer_row_of_steps(self):
        loop = Loop(Program([If("two", "a", Program([Write("two", "b")]), EMPTY)]))
        row = [loop, Stop()]
        ((act, row),) = left(BOARD, row)
        self.assertEqual((act, row), (("go",), [loop.body.row[0], loop, Stop()]))
        (yes, no) = left(BOARD, row)
        self.assertEqual(yes, (look("two", "a"), [Write("two", "b"), loop, Stop()]))
        self.assertEqual(no, (look("two", "b"), [loop, Stop()]))
        self.assertEqual(left(BOARD, yes[1]), [(("put", "two", "b"), [loop, Stop()])])

    def test_a_row_longer_than_a_program_may_be(self):
        skips = [Skip()] * 24
        loop = Loop(Program(skips[1:]))
        self.check([loop] + skips, [(("go",), skips[1:] + [loop] + skips)])

    def test_by_names_and_twice_alike(self):
        row = [If("four", "c", Program(ONE), EMPTY)] + REST
        self.assertEqual(left(board=BOARD, row=row), left(BOARD, row))


class Refusals(unittest.TestCase):
    def each(self, cell, value):
        return [Write(cell, value), Wait(cell, value), If(cell, value, EMPTY, EMPTY), While(cell, value, EMPTY)]

    def test_a_cell_that_the_board_does_not_have(self):
        for cell in ("five", "a", "tw", "twoo"):
            for value in ("a", "z"):
                for statement in self.each(cell, value):
                    for rest in ((), REST):
                        with self.subTest(statement=vars(statement)):
                            self.assertEqual(refused(statement, rest), (NoCell, {"name": cell}))

    def test_a_value_that_the_cell_does_not_have(self):
        for cell, value in (("two", "c"), ("two", "two"), ("three", "d"), ("four", "e"), ("four", "aa")):
            for statement in self.each(cell, value):
                with self.subTest(statement=vars(statement)):
                    self.assertEqual(refused(statement, REST), (NoValue, {"cell": cell, "value": value}))

    def test_what_stands_behind_or_within_is_not_looked_at(self):
        bad = [Write("five", "a"), Wait("two", "z"), If("five", "a", EMPTY, EMPTY), While("three", "d", EMPTY)]
        within = Program(bad)
        for statement in (
            Skip(), Mark("m"), Stop(), Write("two", "a"), Wait("two", "a"), Loop(within), Choose(within, within),
            If("two", "a", within, within), While("two", "b", within),
        ):
            with self.subTest(statement=vars(statement)):
                self.assertIsNone(refused(statement, bad))

    def test_a_refused_row_stays(self):
        row = [Write("five", "a"), Skip()]
        with self.assertRaises(NoCell):
            left(BOARD, row)
        self.assertEqual(row, [Write("five", "a"), Skip()])


class ListsOfTheAskers(unittest.TestCase):
    ROWS = [
        [Write("two", "a")] + REST, [Wait("two", "a")] + REST, [Skip()] + REST, [Stop()] + REST, [],
        [If("three", "b", Program(ONE), Program(OTHER))] + REST, [While("three", "b", Program(ONE))] + REST,
        [While("four", "b", EMPTY)], [Choose(EMPTY, EMPTY)] + REST, [Choose(Program(ONE), EMPTY)],
        [Loop(Program(ONE))] + REST, [Loop(EMPTY)],
    ]

    def test_what_was_told_may_be_changed(self):
        for row in self.ROWS:
            kept = list(row)
            told = left(BOARD, row)
            again = left(BOARD, row)
            for _, rest in told:
                rest.append(Skip())
                rest[0] = Mark("changed")
            told.clear()
            self.assertEqual(row, kept)
            self.assertEqual(left(BOARD, row), again)

    def test_each_list_that_is_told_is_a_new_one(self):
        for row in self.ROWS:
            told = left(BOARD, row)
            for place, (_, rest) in enumerate(told):
                self.assertIsNot(rest, row)
                for _, another in told[:place]:
                    self.assertIsNot(rest, another)

    def test_a_row_changed_afterwards(self):
        row = [Choose(EMPTY, Program(ONE))] + REST
        told = left(BOARD, row)
        row.append(Skip())
        row[1] = Stop()
        self.assertEqual(told, [(("go",), REST), (("go",), ONE + REST)])


if __name__ == "__main__":
    unittest.main()
