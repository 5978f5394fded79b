"""Sheets (points 2, 18, 23 and 24)."""

import unittest

from manyboard.boards import Board
from manyboard.crowds import entries
from manyboard.errors import BadCount, BoardError
from manyboard.games import Game
from manyboard.questions import Question
from manyboard.reading import read_program
from manyboard.sheets import amiss, brings, shuts_out

SMALL = Board([("c", ["a", "b"])])
TWO = Board([("c", ["a", "b"]), ("d", ["x", "y"])])

A = ("a",)
B = ("b",)


def game_of(leader, follower, board=SMALL):
    return Game(board, read_program(leader), read_program(follower))


# Leader: 0 wait, 1 mark, 2 the end. Followers: 0 wait, 1 write, 2 mark, 3 the end.
GAME = game_of("wait c b mark in", "wait c a write c b mark out")
ALL = (0, 1, 2, 3)
SHEET = [(0, A, (0, 1)), (0, B, ALL), (1, B, ALL), (2, B, ALL)]


class NothingAmiss(unittest.TestCase):
    def test_what_entries_tells(self):
        self.assertEqual(entries(GAME), SHEET)
        for leader, follower, board in (
            ("wait c b mark in", "wait c a write c b mark out", SMALL),
            ("write c b write c a", "wait c b mark m wait c a", SMALL),
            ("", "", SMALL), ("", "write c b write c a", SMALL), ("stop", "loop { write c a write c b }", SMALL),
            ("loop { if c a { write c b } else { } }", "wait c b write c a wait c b", SMALL),
            ("wait c b if d x { write c a } else { mark in }",
             "choose { write c b } or { wait c b write d y } while c a { mark m }", TWO),
        ):
            with self.subTest(leader + " / " + follower):
                game = game_of(leader, follower, board)
                sheet = entries(game)
                self.assertIsNone(amiss(game, sheet))
                self.assertIsNone(amiss(game, sheet[::-1]))
                self.assertIsNone(amiss(game=game, sheet=sheet + sheet))

    def test_another_one_that_shuts_itself_too(self):
        for sheet in (
            SHEET + [(2, B, ())], SHEET + [(0, A, ())], [(0, A, ALL)] + SHEET[1:],
            [(room, state, ALL) for room in (2, 1, 0) for state in (B, A)],
            [(0, A, ()), (2, A, (2, 3))] + SHEET, SHEET[::-1] + [(2, A, (3,)), (2, A, ALL)] + SHEET,
        ):
            with self.subTest(sheet=sheet):
                self.assertIsNone(amiss(GAME, sheet))

    def test_any_of_several_entries_of_the_same_room_and_state_will_do(self):
        game = game_of("stop", "write c b write c a")
        sheet = [(0, A, (0,)), (0, B, (0, 1)), (0, A, (0, 1, 2)), (0, B, (0, 1, 2))]
        self.assertIsNone(amiss(game, sheet))
        self.assertEqual(amiss(game, sheet[:2] + [(0, A, (0, 2)), (0, A, (1,)), (0, B, (0, 1, 2))]),
                         ("step", 1, 1, 1, 0))

    def test_what_was_handed_in_stays(self):
        sheet = list(SHEET)
        amiss(GAME, sheet)
        shuts_out(GAME, sheet, Question("in"))
        self.assertEqual(sheet, SHEET)


# Each is none: for its leader's room, its state, or its rooms.
NO_ENTRIES = [
    (3, B, ALL), (-1, B, ALL), (100, A, ()),
    (0, (), ALL), (0, ("c",), ALL), (0, ("",), ALL), (0, ("a", "b"), ALL), (0, ("a", "a"), (0,)),
    (0, A, (0, 4)), (0, A, (4,)), (0, A, (-1,)), (0, A, (-1, 0)), (0, A, (0, 1, 2, 3, 4)), (0, A, (0, 99)),
    (0, A, (0, 0)), (0, A, (0, 1, 1)), (0, A, (0, 2, 2, 3)), (0, A, (1, 0)), (0, A, (0, 2, 1)), (0, A, (3, 2, 1, 0)),
]


class NoEntry(unittest.TestCase):
    def test_each_kind_at_each_place(self):
        for entry in NO_ENTRIES:
            for place in range(len(SHEET) + 1):
                with self.subTest(entry=entry, place=place):
                    self.assertEqual(amiss(GAME, SHEET[:place] + [entry] + SHEET[place:]), ("entry", place))

    def test_the_first_of_several(self):
        self.assertEqual(amiss(GAME, SHEET + [NO_ENTRIES[0], NO_ENTRIES[3]]), ("entry", 4))
        self.assertEqual(amiss(GAME, NO_ENTRIES), ("entry", 0))

    def test_it_comes_ahead_of_all_else(self):
        self.assertEqual(amiss(GAME, [NO_ENTRIES[0]]), ("entry", 0))
        self.assertEqual(amiss(GAME, [(2, A, ()), (0, A, (0, 1)), (0, A, (1, 0))]), ("entry", 2))
        self.assertEqual(amiss(GAME, [(0, A, ALL), (1, A, ALL), (3, A, ALL)]), ("entry", 2))

    def test_the_leaders_rooms_and_the_followers_are_told_apart(self):
        game = game_of("skip skip skip", "skip")
        whole = [(room, A, (0, 1)) for room in range(4)]
        self.assertIsNone(amiss(game, whole))
        self.assertEqual(amiss(game, whole + [(4, A, (0,))]), ("entry", 4))
        self.assertEqual(amiss(game, whole + [(0, A, (0, 2))]), ("entry", 4))

    def test_states_of_two_cells(self):
        game = game_of("stop", "stop", TWO)
        good = [(0, ("a", "x"), (0,))]
        self.assertIsNone(amiss(game, good + [(0, ("b", "y"), (0,))]))
        for state in (("x", "a"), ("a",), ("a", "a"), ("x", "x"), ("a", "x", "x"), (), ("b", "z")):
            with self.subTest(state=state):
                self.assertEqual(amiss(game, good + [(0, state, (0,))]), ("entry", 1))


class NoBeginning(unittest.TestCase):
    def test_where_no_entry_has_it(self):
        for sheet in (
            [], SHEET[1:], [(0, A, (1, 2, 3))] + SHEET[1:], [(0, A, ())] + SHEET[1:], [(1, A, ALL)] + SHEET[1:],
            [(2, A, ALL), (0, B, ALL), (0, A, (1,))],
        ):
            with self.subTest(sheet=sheet):
                self.assertEqual(amiss(GAME, sheet), ("begin",))

    def test_it_comes_ahead_of_the_steps(self):
        self.assertEqual(amiss(GAME, [(0, B, (0,)), (0, A, (1,))]), ("begin",))

    def test_more_rooms_do_no_harm(self):
        self.assertEqual(amiss(GAME, [(0, A, (0, 1))]), ("step", 0, 1, 1, 0))
        self.assertIsNone(amiss(game_of("stop", "stop stop"), [(0, A, (0, 1, 2))]))


class StepsAmiss(unittest.TestCase):
    def test_an_entry_left_out(self):
        self.assertEqual(amiss(GAME, [SHEET[0], SHEET[2], SHEET[3]]), ("step", 0, 1, 1, 0))
        self.assertEqual(amiss(GAME, [SHEET[0], SHEET[1], SHEET[3]]), ("step", 1, 0, 0, 0))
        self.assertEqual(amiss(GAME, [SHEET[0], SHEET[1], SHEET[2]]), ("step", 2, 0, 1, 0))

    def test_a_room_left_out(self):
        self.assertEqual(amiss(GAME, [(0, A, (0,))] + SHEET[1:]), ("step", 0, 1, 0, 0))
        self.assertEqual(amiss(GAME, [SHEET[0], (0, B, (0, 1)), SHEET[2], SHEET[3]]), ("step", 0, 1, 1, 0))
        self.assertEqual(amiss(GAME, [SHEET[0], (0, B, (0, 1, 2)), SHEET[2], SHEET[3]]), ("step", 1, 1, 2, 0))
        self.assertEqual(amiss(GAME, [SHEET[0], SHEET[1], (1, B, (0, 1, 2)), SHEET[3]]), ("step", 1, 0, 0, 0))
        self.assertEqual(amiss(GAME, SHEET[:3] + [(2, B, (0, 1, 3))]), ("step", 2, 0, 1, 0))

    def test_the_step_of_the_leader_by_its_number(self):
        # 0 choose, 1 write, 2 stop, 3 the end
        game = game_of("choose { write c b } or { stop }", "stop")
        sheet = [(0, A, (0,)), (1, A, (0,)), (2, A, (0,)), (3, B, (0,))]
        self.assertIsNone(amiss(game, sheet))
        self.assertEqual(amiss(game, [sheet[0], sheet[1], sheet[3]]), ("step", 0, 0, 0, 1))
        self.assertEqual(amiss(game, [sheet[0], sheet[2]]), ("step", 0, 0, 0, 0))
        self.assertEqual(amiss(game, sheet[:3]), ("step", 1, 0, 1, 0))
        self.assertEqual(amiss(game, sheet[:3] + [(3, A, (0,))]), ("step", 1, 0, 1, 0))

    def test_the_step_of_a_follower_by_its_room_and_number(self):
        # 0 if, 1 stop, 2 skip, 3 the end; the look at a is the second one.
        game = game_of("stop", "if c b { stop } else { skip }")
        self.assertEqual(amiss(game, [(0, A, (0,))]), ("step", 0, 1, 0, 1))
        self.assertEqual(amiss(game, [(0, A, (0, 2))]), ("step", 0, 1, 2, 0))
        self.assertIsNone(amiss(game, [(0, A, (0, 2, 3))]))

    def test_only_steps_that_can_be_done(self):
        game = game_of("wait c b skip", "wait c b skip")
        self.assertIsNone(amiss(game, [(0, A, (0,))]))
        self.assertEqual(amiss(game, [(0, A, (0,)), (0, B, (0,))]), ("step", 1, 0, 0, 0))

    def test_a_still_put_is_a_step_too(self):
        game = game_of("stop", "write c a")
        self.assertEqual(amiss(game, [(0, A, (0,))]), ("step", 0, 1, 0, 0))
        self.assertIsNone(amiss(game, [(0, A, (0, 1))]))

    def test_the_leader_ahead_of_the_followers_and_room_by_room(self):
        game = game_of("skip", "skip skip")
        self.assertEqual(amiss(game, [(0, A, (0, 1))]), ("step", 0, 0, 0, 0))
        self.assertEqual(amiss(game, [(0, A, (0, 1)), (1, A, (0, 1))]), ("step", 0, 1, 1, 0))
        self.assertEqual(amiss(game, [(0, A, (0,)), (1, A, (0,))]), ("step", 0, 1, 0, 0))
        self.assertEqual(amiss(game, [(0, A, (0, 1, 2)), (1, A, (0, 1))]), ("step", 0, 0, 0, 0))

    def test_the_first_entry_first(self):
        game = game_of("skip skip", "stop")
        self.assertEqual(amiss(game, [(1, A, (0,)), (0, A, (0,))]), ("step", 0, 0, 1, 0))
        self.assertEqual(amiss(game, [(2, A, (0,)), (0, A, (0,)), (1, A, ())]), ("step", 1, 0, 0, 0))

    def test_the_state_and_the_leaders_room_are_asked_for_as_they_are_then(self):
        game = game_of("write c b", "stop")
        self.assertEqual(amiss(game, [(0, A, (0,)), (1, A, (0,))]), ("step", 0, 0, 0, 0))
        self.assertEqual(amiss(game, [(0, A, (0,)), (0, B, (0,))]), ("step", 0, 0, 0, 0))
        self.assertIsNone(amiss(game, [(0, A, (0,)), (1, B, (0,))]))

    def test_one_entry_must_have_all_the_rooms(self):
        game = game_of("skip", "stop stop")
        self.assertEqual(amiss(game, [(0, A, (0, 1)), (1, A, (0,)), (1, A, (1,))]), ("step", 0, 0, 0, 0))
        self.assertIsNone(amiss(game, [(0, A, (0, 1)), (1, A, (0,)), (1, A, (0, 1, 2))]))


class ShutsOut(unittest.TestCase):
    def check(self, question, wanted, sheet=None):
        with self.subTest(question=vars(question), sheet=sheet):
            told = shuts_out(GAME, SHEET if sheet is None else sheet, question)
            self.assertIs(told, wanted)

    def test_what_no_entry_meets(self):
        self.check(Question("in", None, [("c", "a")]), True)
        self.check(Question(None, ["out"], [("c", "a")]), True)
        self.check(Question("in", ["out", "out"], [("c", "a")]), True)

    def test_what_an_entry_meets(self):
        self.check(Question(), False)
        self.check(Question("in"), False)
        self.check(Question(None, None, [("c", "a")]), False)
        self.check(Question(None, ["out"]), False)
        self.check(Question("in", ["out"], [("c", "b")]), False)

    def test_a_mark_asked_several_times(self):
        for many in range(1, 7):
            self.check(Question("in", ["out"] * many), False)
            self.check(Question("in", ["out"] * many, [("c", "a")]), True)

    def test_all_marks_in_one_entry(self):
        # 0 choose, 1 mark, 2 wait, 3 mark, 4 the end; the leader puts b and goes on.
        game = game_of("write c b", "choose { mark a stop } or { wait c b mark b }")
        sheet = entries(game)
        self.assertIs(shuts_out(game, sheet, Question(None, ["a", "b"], [("c", "b")])), False)
        self.assertIs(shuts_out(game, sheet, Question(None, ["b", "a"], [("c", "a")])), True)
        self.assertIs(shuts_out(game, sheet, Question(None, ["a", "a"], [("c", "a")])), False)
        self.assertIs(shuts_out(game=game, sheet=sheet, question=Question(None, ["b"], [("c", "a")])), True)

    def test_a_sheet_with_something_amiss_shuts_nothing_out(self):
        never = Question("in", None, [("c", "a")])
        for sheet in ([], SHEET[1:], SHEET[:1], SHEET[:2], SHEET[:3], SHEET + [(3, A, ())], SHEET + [(0, A, (1, 0))]):
            self.assertIsNotNone(amiss(GAME, sheet))
            self.check(never, False, sheet)

    def test_a_sheet_with_more_may_meet_what_never_comes_about(self):
        never = Question(None, ["out"], [("c", "a")])
        self.check(never, True, SHEET + [(2, A, (3,))])
        more = [(0, A, ALL)] + SHEET[1:]
        self.assertIsNone(amiss(GAME, more))
        self.check(never, False, more)


class Brings(unittest.TestCase):
    MOVES = [(1, 0), (1, 0), (0, 0)]

    def check(self, many, moves, question, wanted):
        with self.subTest(many=many, moves=moves, question=vars(question)):
            self.assertIs(brings(GAME, many, moves, question), wanted)

    def test_played_and_met(self):
        question = Question("in", ["out"], [("c", "b")])
        self.check(1, self.MOVES, question, True)
        self.check(5, self.MOVES, question, True)
        self.assertIs(brings(question=question, moves=self.MOVES, many=1, game=GAME), True)
        self.check(0, [], Question(), True)
        self.check(400, [], Question(None, None, [("c", "a")]), True)

    def test_played_and_not_met_behind_the_last_move(self):
        question = Question("in", ["out"], [("c", "b")])
        self.check(1, self.MOVES[:2], question, False)
        self.check(1, self.MOVES + [(0, 0)], question, False)
        self.check(1, self.MOVES + [(1, 0)], question, False)
        self.check(1, self.MOVES, Question("in", ["out", "out"]), False)
        self.check(1, self.MOVES, Question(None, None, [("c", "a")]), False)
        self.check(0, [], Question("in"), False)

    def test_as_many_followers_as_are_asked(self):
        moves = [(1, 0), (2, 0), (1, 0), (2, 0)]
        self.check(2, moves, Question(None, ["out", "out"]), True)
        self.check(2, moves, Question(None, ["out"]), True)
        self.check(2, moves, Question(None, ["out"] * 3), False)

    def test_a_move_that_is_refused(self):
        for move in ((2, 0), (-1, 0), (1, 1), (1, -1), (0, 1)):
            for place in range(len(self.MOVES) + 1):
                self.check(1, self.MOVES[:place] + [move] + self.MOVES[place:], Question(), False)
        self.check(1, [(0, 0)], Question(), False)
        self.check(0, self.MOVES, Question(), False)

    def test_too_few_and_too_many_followers(self):
        for many in (-1, 401):
            for moves in ([], self.MOVES, [(9, 9)]):
                with self.assertRaises(BoardError) as caught:
                    brings(GAME, many, moves, Question())
                self.assertIs(caught.exception.__class__, BadCount)
                self.assertEqual(vars(caught.exception), {"what": "followers", "count": many})

    def test_what_was_handed_in_stays(self):
        moves = list(self.MOVES)
        brings(GAME, 1, moves, Question("in"))
        self.assertEqual(moves, self.MOVES)


if __name__ == "__main__":
    unittest.main()
