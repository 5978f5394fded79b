"""One program in another one's place (points 2, 12, 13, 20, 30 and 31)."""

import itertools
import unittest

from manyboard.boards import Board
from manyboard.counts import least
from manyboard.crowds import entries
from manyboard.errors import BoardError, NoCell, NoValue
from manyboard.games import Game
from manyboard.likeness import like, stands_in
from manyboard.questions import Question
from manyboard.reading import read_program
from manyboard.rooms import Machine
from manyboard.trees import Choose, Loop, Program, Skip, Wait, Write
from manyboard.ways import may

SMALL = Board([("c", ["a", "b"])])
TWO = Board([("c", ["a", "b"]), ("d", ["x", "y", "z"])])
LARGE = Board([("c", ["k", "l", "m", "n"]), ("d", ["k", "l", "m", "n"]), ("e", ["k", "l", "m", "n"])])


def refused(call):
    """What a call is refused with, with its fields, or None."""
    try:
        call()
    except BoardError as error:
        return error.__class__, vars(error)
    return None


def states_of(board):
    return list(itertools.product(*[board.values_of(cell) for cell in board.cells()]))


def behind(board, state, act):
    """The state behind an act, or None where it can not be done."""
    if act[0] == "go":
        return state
    held = dict(zip(board.cells(), state))
    if act[0] == "look":
        return state if held[act[1]] == act[2] else None
    held[act[1]] = act[2]
    return tuple(held[cell] for cell in board.cells())


def still_from(board, machine, state, rooms):
    found = set(rooms)
    while True:
        more = {target for room in found for act, target in machine.steps(room)
                if behind(board, state, act) == state} | found
        if more == found:
            return found
        found = more


def keeps(board, one, other, pairs, pair):
    """Whether a pair keeps what point 30 asks of it, word by word."""
    for state in states_of(board):
        for act, target in one.steps(pair[0]):
            after = behind(board, state, act)
            if after is not None:
                ends = still_from(board, other, state, [pair[1]])
                if after != state:
                    ends = {room for end in ends for deed, room in other.steps(end)
                            if behind(board, state, deed) == after}
                    ends = still_from(board, other, after, ends)
                if not any((target, end) in pairs for end in ends):
                    return False
    return True


def greatest(board, one, other):
    """The pairs of point 30, found by putting out of all pairs those that do not keep it."""
    machines = Machine(board, one), Machine(board, other)
    pairs = set(itertools.product(*[range(machine.rooms()) for machine in machines]))
    while True:
        kept = {pair for pair in pairs if keeps(board, *machines, pairs, pair)}
        if kept == pairs:
            return sorted(pairs)
        pairs = kept


PROGRAMS = [
    "", "skip", "stop", "write c a", "write c b", "skip write c b", "write c b write c b", "write c b write c a",
    "wait c a write c b", "wait c b write c a", "mark m write c b mark n", "loop { write c b }",
    "loop { write c a write c b }", "while c a { write c b }", "if c a { write c b } else { }",
    "choose { write c b } or { }", "choose { write c b } or { write c a }", "loop { choose { write c a } or { write c b } }",
    "choose { skip write c b write c a } or { wait c b write c a write c b }", "while c b { skip } write c a write c b",
]


class Like(unittest.TestCase):
    def check(self, one, other, wanted, board=SMALL):
        with self.subTest(one + " / " + other):
            told = like(board, read_program(one), read_program(other))
            self.assertEqual(told, wanted)
            self.assertIsInstance(told, list)
            self.assertTrue(all(isinstance(pair, tuple) for pair in told))

    def test_reckoned_by_hand(self):
        self.check("", "", [(0, 0)])
        self.check("", "skip skip", [(0, 0), (0, 1), (0, 2)])
        self.check("skip", "", [(0, 0), (1, 0)])
        self.check("write c b", "", [(1, 0)])
        self.check("write c b", "write c a", [(1, 0), (1, 1)])
        self.check("write c b", "skip write c b", [(0, 0), (0, 1), (1, 0), (1, 1), (1, 2)])
        self.check("skip write c b", "write c b", [(0, 0), (1, 0), (2, 0), (2, 1)])
        # 0 loop, 1 write, 2 the end, to which nobody comes
        self.check("write c b write c a", "loop { write c b }", [(2, 0), (2, 1), (2, 2)])
        self.check("write c b", "loop { write c b }", [(0, 0), (0, 1), (1, 0), (1, 1), (1, 2)])

    def test_against_the_words_of_the_document(self):
        for one in PROGRAMS:
            for other in PROGRAMS:
                wanted = greatest(SMALL, read_program(one), read_program(other))
                self.check(one, other, wanted)
                self.assertIs(stands_in(SMALL, read_program(one), read_program(other)), (0, 0) in wanted)

    def test_what_is_put_out_late_because_of_what_stands_ahead_of_it(self):
        for one, other in (
            ("stop loop { write c a mark m }", ""),
            ("stop loop { skip skip write c a skip }", "stop write c a"),
            ("write c a write c a loop { write c a while c b { } mark m }", "write c a"),
            ("write c a while c a { while c b { write c b skip } }", "choose { } or { write c b }"),
        ):
            self.check(one, other, greatest(SMALL, read_program(one), read_program(other)))
        # 0 stop, 1 loop, 2 write, 3 mark, 4 the end: round and round everything leads to the write.
        self.check("stop loop { write c a mark m }", "", [(0, 0), (4, 0)])

    def test_with_more_cells(self):
        texts = ["if d y { write c b } else { write d y }", "wait d x write d y write c b", "while d z { write d x } write c b",
                 "choose { write d y write d z } or { write c b }", "if d x { write d y } else { write c b }",
                 "loop { choose { wait d z write c a } or { write d z } }"]
        for one in texts:
            for other in texts:
                self.check(one, other, greatest(TWO, read_program(one), read_program(other)), TWO)

    def test_by_names_and_the_askers_own(self):
        one, other = read_program("write c b"), read_program("skip write c b")
        told = like(other=other, one=one, board=SMALL)
        kept = list(told)
        told.clear()
        self.assertEqual(like(SMALL, one, other), kept)
        self.assertIs(stands_in(other=other, one=one, board=SMALL), True)
        self.assertEqual([str(one), str(other)], ["write c b", "skip write c b"])

    def test_refused_as_the_first_machine_then_as_the_second(self):
        for one, other, wanted in (
            ("wait f a", "wait g a", (NoCell, {"name": "f"})),
            ("wait c z", "wait g a", (NoValue, {"cell": "c", "value": "z"})),
            ("skip", "wait g a", (NoCell, {"name": "g"})),
            ("skip", "skip write c z", (NoValue, {"cell": "c", "value": "z"})),
            ("loop { skip write f a }", "wait c z", (NoCell, {"name": "f"})),
        ):
            with self.subTest(one + " / " + other):
                programs = read_program(one), read_program(other)
                self.assertEqual(refused(lambda: like(SMALL, *programs)), wanted)
                self.assertEqual(refused(lambda: stands_in(SMALL, *programs)), wanted)


class StandsIn(unittest.TestCase):
    def check(self, one, other, wanted, board=SMALL):
        with self.subTest(one + " / " + other):
            self.assertIs(stands_in(board, read_program(one), read_program(other)), wanted)

    def test_in_its_own_place(self):
        for text in PROGRAMS:
            program = read_program(text)
            self.check(text, text, True)
            told = like(SMALL, program, program)
            for room in range(Machine(SMALL, program).rooms()):
                self.assertIn((room, room), told)

    def test_within_a_choice(self):
        self.check("write c b", "choose { write c b } or { write c a }", True)
        self.check("write c b", "choose { write c a } or { write c b }", True)
        self.check("choose { write c a } or { write c b }", "write c b", False)
        self.check("write c b", "choose { } or { write c a }", False)

    def test_behind_a_skip_and_behind_a_wait(self):
        self.check("write c b", "skip skip write c b", True)
        self.check("write c b", "mark m write c b", True)
        self.check("mark m skip write c b", "write c b", True)
        self.check("write c b", "wait c a write c b", True)
        self.check("write d y", "wait c a write d y", False, TWO)
        self.check("wait c a write d y", "write d y", True, TWO)
        self.check("wait c b write d y", "wait c a write d y", False, TWO)

    def test_writes_of_unlike_values_and_cells(self):
        self.check("write c a", "write c b", False)
        self.check("write c b", "write c a", False)
        self.check("write d x", "write d y", False, TWO)
        self.check("write c a", "write d x", False, TWO)

    def test_no_statement(self):
        for text in PROGRAMS:
            self.check("", text, True)
            self.check("stop", text, True)
        for text in ("skip", "mark m", "wait c b", "loop { }", "while c a { skip }", "stop write c b"):
            self.check(text, "", True)
        self.check("write c b", "", False)
        self.check("write c a", "", False)

    def test_at_states_that_no_game_comes_to(self):
        # Nobody ever puts b, and yet the state where c holds b is asked for.
        self.check("wait c b write c a", "", False)
        self.check("if c b { write c a } else { }", "stop", False)

    def test_as_many_times(self):
        self.check("write c b write c a", "write c b", False)
        self.check("write c b write c b", "write c b", False)
        self.check("write c b", "write c b write c b", True)
        self.check("write c b write c a write c b", "loop { write c b write c a }", True)
        self.check("loop { write c b write c a }", "write c b write c a write c b", False)

    def test_still_steps_behind_the_one_that_is_not(self):
        self.check("write c b if c b { write d y } else { write d z }", "write c b skip wait c b write d y", False, TWO)
        self.check("write c b wait c b write d y", "write c b skip while c a { } mark m write d y", True, TWO)
        # Right behind its own put a follower finds what it waits for, but not what it waits for later.
        self.check("write c b skip write d y", "write c b wait c b write d y", True, TWO)
        self.check("write c b skip write d y", "write c b wait c a write d y", False, TWO)
        self.check("write c b wait c b skip wait c b write d y", "write c b wait c b write d y", True, TWO)

    def test_one_behind_the_other(self):
        programs = [read_program(text) for text in PROGRAMS]
        found = {(one, other) for one in range(len(programs)) for other in range(len(programs))
                 if stands_in(SMALL, programs[one], programs[other])}
        for one, other in found:
            for third in range(len(programs)):
                if (other, third) in found:
                    self.assertIn((one, third), found)

    def test_what_may_come_about_still_may(self):
        leaders = ["wait c b mark in", "wait c b wait c a mark in wait c b mark out", "write c b wait c a mark in",
                   "while c a { } write c a mark in while c a { } mark out"]
        for one, other in itertools.product(PROGRAMS, PROGRAMS):
            if stands_in(SMALL, read_program(one), read_program(other)):
                for leader in leaders:
                    first = Game(SMALL, read_program(leader), read_program(one))
                    second = Game(SMALL, read_program(leader), read_program(other))
                    for question in [Question("in"), Question("in", None, [("c", "a")]), Question(None, None, [("c", "b")])]:
                        if may(first, question):
                            self.assertIs(may(second, question), True)
                            self.assertLessEqual(least(second, question)[0], least(first, question)[0])
        self.assertTrue(entries(first))


def all_statements(kind):
    return [kind(cell, value) for cell in "cde" for value in "klmn"]


class LargeBoards(unittest.TestCase):
    def test_three_cells_of_four_values(self):
        writes = all_statements(Write)
        waits = all_statements(Wait)
        loop = Program([Loop(Program(writes + waits[:11]))])
        other = Program([Loop(Program(waits[:11] + writes))])
        # At one state none comes past the first two waits, so the other loop stands before its writes.
        for one, two, wanted in ((loop, loop, True), (other, other, True), (loop, other, False), (other, loop, True),
                                 (Program(writes + writes), Program(writes + writes), True),
                                 (Program([Skip()] * 24), Program([Skip()]), True)):
            self.assertIs(stands_in(LARGE, one, two), wanted)

    def test_whatever_there_is_to_choose(self):
        rows = [Program([write]) for write in all_statements(Write)]
        while len(rows) > 1:
            rows = [Program([Choose(rows[at], rows[at + 1])]) if at + 1 < len(rows) else rows[at]
                    for at in range(0, len(rows), 2)]
        chosen = rows[0]
        for write in all_statements(Write):
            self.assertIs(stands_in(LARGE, Program([write]), chosen), True)
            self.assertIs(stands_in(LARGE, chosen, Program([write])), False)
            self.assertIs(stands_in(LARGE, Program([write, write]), chosen), False)
            self.assertIs(stands_in(LARGE, Program([write, write]), Program([Loop(chosen)])), True)


if __name__ == "__main__":
    unittest.main()
