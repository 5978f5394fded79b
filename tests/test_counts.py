"""How many followers are needed (points 2, 15, 18, 25, 28 and 29)."""

import unittest

from manyboard.boards import Board
from manyboard.counts import least, standings
from manyboard.crowds import entries
from manyboard.errors import BadCount, Beyond, BoardError, Never, NoCell, NoMark, NoValue, Wide
from manyboard.games import Game
from manyboard.questions import Question, met
from manyboard.reading import read_program
from manyboard.sheets import brings
from manyboard.ways import may

SMALL = Board([("c", ["a", "b"])])
TWO = Board([("c", ["a", "b"]), ("d", ["x", "y"])])
LARGE = Board([("c", ["k", "l", "m", "n"]), ("d", ["k", "l", "m", "n"]), ("e", ["k", "l", "m", "n"])])

A = ("a",)
B = ("b",)

PLACES = [("c", "l"), ("d", "l"), ("e", "l"), ("c", "m"), ("d", "m"), ("e", "m"), ("c", "n"), ("d", "n"), ("e", "n")]


def widening(many):
    """A leader that may put each of so many values or leave it."""
    return " ".join("choose { write " + cell + " " + value + " } or { }" for cell, value in PLACES[:many])


# The leader comes to the nine choices at 1, 2, 4, 8, 12, 18, 27, 36 and 48 states, behind them there are
# 64 of them, and 16 behind a wait for a value of d: 2 * 156 + 4 * 64 + 2 * 16 = 600 standings of the
# leader alone. With seven choices there are 300 entries: see test_crowds.
SIX_HUNDRED = widening(9) + " skip skip skip wait d k skip"
THREE_HUNDRED = widening(7) + " skip skip skip wait d k"


def game_of(leader, follower, board=SMALL):
    return Game(board, read_program(leader), read_program(follower))


def refused(call):
    """What a call is refused with, with its fields, or None."""
    try:
        call()
    except BoardError as error:
        return error.__class__, vars(error)
    return None


WIDE = (Wide, {"count": 600})


def gone_through(game, many):
    """All standings that so many followers can come to, by all moves of each, told as point 28 tells them."""
    first = game.begin(many)
    found = {first}
    waiting = [first]
    while waiting:
        standing = waiting.pop()
        for move in game.moves(standing):
            behind = game.moved(standing, move)
            if behind not in found:
                found.add(behind)
                waiting.append(behind)
    return sorted({(lead, state, tuple(sorted(rooms))) for lead, state, rooms in found})


GAMES = [
    (SMALL, "", ""),
    (SMALL, "wait c b mark in", "wait c a write c b mark out"),
    (SMALL, "loop { if c a { write c b mark in } else { mark out } }", "wait c b mark m write c a wait c b mark n"),
    (SMALL, "stop", "choose { write c b stop } or { wait c b mark m write c a mark n }"),
    (TWO, "wait c b mark in wait d y mark out", "if c a { write c b mark m } else { write d y mark n }"),
    (TWO, "write d y mark in wait c b write c a mark out", "wait d y choose { write c b } or { mark m } mark n"),
]


class Standings(unittest.TestCase):
    def check(self, leader, follower, many, wanted):
        with self.subTest(leader + " / " + follower, many=many):
            told = standings(game_of(leader, follower), many)
            self.assertEqual(told, wanted)
            self.assertIsInstance(told, list)

    def test_of_no_followers(self):
        self.check("", "", 0, [(0, A, ())])
        self.check("wait c b skip", "write c b", 0, [(0, A, ())])
        self.check("write c b skip", "write c b", 0, [(0, A, ()), (1, B, ()), (2, B, ())])

    def test_of_one_follower(self):
        self.check("wait c b", "write c b", 1, [(0, A, (0,)), (0, B, (1,)), (1, B, (1,))])
        self.check("", "choose { write c b } or { skip }", 1, [
            (0, A, (0,)), (0, A, (1,)), (0, A, (2,)), (0, A, (3,)), (0, B, (3,))])

    def test_of_several_followers_whose_rooms_are_told_sorted(self):
        self.check("", "skip", 2, [(0, A, (0, 0)), (0, A, (0, 1)), (0, A, (1, 1))])
        self.check("", "skip", 3, [(0, A, (0, 0, 0)), (0, A, (0, 0, 1)), (0, A, (0, 1, 1)), (0, A, (1, 1, 1))])
        self.check("", "write c b", 2, [(0, A, (0, 0)), (0, B, (0, 1)), (0, B, (1, 1))])

    def test_as_numbers(self):
        told = standings(game_of("", "skip " * 9 + "skip"), 2)
        self.assertEqual(told, [(0, A, (low, high)) for low in range(11) for high in range(low, 11)])
        self.assertIn((0, A, (9, 10)), told)

    def test_against_a_going_through_of_all_moves(self):
        for board, leader, follower in GAMES:
            game = game_of(leader, follower, board)
            for many in range(5):
                with self.subTest(leader + " / " + follower, many=many):
                    wanted = gone_through(game, many)
                    if len(wanted) > 600:
                        self.assertEqual(refused(lambda: standings(game, many)), WIDE)
                    else:
                        self.assertEqual(standings(game, many), wanted)

    def test_six(self):
        told = standings(game_of("skip", "wait c b"), 6)
        self.assertEqual(told, [(0, A, (0,) * 6), (1, A, (0,) * 6)])

    def test_the_askers_own(self):
        game = game_of("skip", "skip")
        told = standings(game=game, many=2)
        kept = list(told)
        told.clear()
        self.assertEqual(standings(game, 2), kept)

    def test_too_few_and_too_many_followers(self):
        for game in (game_of("", ""), game_of("skip " + SIX_HUNDRED, "", LARGE)):
            for many in (-1, 7, -100, 400, 401):
                wanted = (BadCount, {"what": "followers", "count": many})
                self.assertEqual(refused(lambda: standings(game, many)), wanted)

    def test_just_six_hundred_of_the_leader_alone(self):
        self.assertEqual(len(standings(game_of(SIX_HUNDRED, "", LARGE), 0)), 600)
        self.assertEqual(refused(lambda: standings(game_of("skip " + SIX_HUNDRED, "", LARGE), 0)), WIDE)

    def test_just_six_hundred_of_three_followers(self):
        # Three followers in eight rooms, as many as 10 * 9 * 8 / 6 = 120, by five rooms of the leader.
        self.assertEqual(len(standings(game_of("skip " * 3 + "skip", "skip " * 6 + "skip"), 3)), 600)
        self.assertEqual(refused(lambda: standings(game_of("skip " * 4 + "skip", "skip " * 6 + "skip"), 3)), WIDE)
        self.assertEqual(refused(lambda: standings(game_of("skip " * 3 + "skip", "skip " * 7 + "skip"), 3)), WIDE)

    def test_far_too_many(self):
        writes = " ".join("write " + cell + " " + value for value in "lkmn" for cell in "cde")
        game = game_of("loop { " + writes + " }", "loop { " + writes + " }", LARGE)
        for many in range(1, 7):
            self.assertEqual(refused(lambda: standings(game, many)), WIDE)

    def test_the_entries_are_not_asked(self):
        game = game_of("skip " + THREE_HUNDRED, "", LARGE)
        self.assertEqual(refused(lambda: entries(game)), (Wide, {"count": 300}))
        self.assertEqual(len(standings(game, 0)), 301)


class Least(unittest.TestCase):
    def check(self, game, question, wanted):
        """Asks for the least number, and holds it against all standings of so many and of fewer."""
        with self.subTest(question=vars(question), wanted=wanted):
            told = least(game, question)
            self.assertIsInstance(told, tuple)
            many, moves = told
            self.assertEqual(many, wanted)
            self.assertIsInstance(moves, list)
            self.assertTrue(all(isinstance(move, tuple) for move in moves))
            self.assertTrue(brings(game, many, moves, question))
            for fewer in range(many):
                self.assertFalse(any(met(game, question, standing) for standing in standings(game, fewer)))
            self.assertTrue(any(met(game, question, standing) for standing in standings(game, many)))

    def test_none(self):
        self.check(game_of("", ""), Question(), 0)
        self.check(game_of("write c b mark in", "mark m"), Question("in", None, [("c", "b")]), 0)

    def test_as_many_as_are_asked(self):
        game = game_of("wait c b mark in", "wait c a write c b mark out")
        for many in range(1, 7):
            self.check(game, Question(None, ["out"] * many), many)
            self.check(game, Question("in", ["out"] * many, [("c", "b")]), many)
        game = game_of("", "choose { mark m } or { mark n }")
        self.check(game, Question(None, ["m", "n", "m"]), 3)

    def test_more_than_are_asked(self):
        game = game_of("stop", "choose { write c b stop } or { wait c b mark m }")
        for many in range(1, 6):
            self.check(game, Question(None, ["m"] * many), many + 1)
        self.check(game, Question(None, None, [("c", "b")]), 1)

    def test_each_number_by_what_the_leader_waits_for(self):
        # Each follower puts once, and the leader undoes it.
        for many in range(7):
            game = game_of("wait c b write c a " * many + "mark in", "write c b")
            self.check(game, Question("in"), many)

    def test_beyond_six(self):
        beyond = (Beyond, {"count": 6})
        for many in (7, 8):
            game = game_of("wait c b write c a " * many + "mark in", "write c b")
            self.assertIs(may(game, Question("in")), True)
            self.assertEqual(refused(lambda: least(game, Question("in"))), beyond)
        game = game_of("stop", "choose { write c b stop } or { wait c b mark m }")
        self.assertEqual(refused(lambda: least(game, Question(None, ["m"] * 6))), beyond)

    def test_more_followers_never_do_less(self):
        for board, leader, follower in GAMES:
            game = game_of(leader, follower, board)
            for mark in game.machine(1).marks():
                question = Question(None, [mark])
                if may(game, question):
                    many, moves = least(game, question)
                    self.check(game, question, many)
                    for more in range(many, 7):
                        self.assertTrue(brings(game, more, moves, question))

    def test_by_names_and_the_same_at_each_asking(self):
        question = Question("in", ["out", "out"])
        many, moves = least(game_of("wait c b mark in", "wait c a write c b mark out"), question)
        kept = list(moves)
        game = game_of("wait c b mark in", "wait c a write c b mark out")
        told = least(question=question, game=game)
        self.assertEqual(told, (many, kept))
        told[1].clear()
        self.assertEqual(least(game, question), (many, kept))


class LeastRefused(unittest.TestCase):
    def check(self, game, question, wanted):
        with self.subTest(question=vars(question)):
            self.assertEqual(refused(lambda: least(game, question)), wanted)

    def check_each(self, game):
        """The refusals of point 18 in their order: of two that are due the first is told."""
        self.check(game, Question("out", ["out"], [("f", "z")]), (NoMark, {"name": "out"}))
        self.check(game, Question("m", ["m"]), (NoMark, {"name": "m"}))
        self.check(game, Question("in", ["m", "in"], [("f", "z")]), (NoMark, {"name": "in"}))
        self.check(game, Question("in", ["m"], [("f", "z"), ("c", "z")]), (NoCell, {"name": "f"}))
        self.check(game, Question("in", ["m"], [("c", "z"), ("f", "z")]), (NoValue, {"cell": "c", "value": "z"}))

    def test_the_questions_come_first(self):
        self.check_each(game_of("mark in", "mark m", LARGE))
        self.check_each(game_of("skip " + THREE_HUNDRED + " mark in", "mark m", LARGE))

    def test_wide_of_three_hundred_ahead_of_all_else(self):
        game = game_of("skip " + THREE_HUNDRED, "mark m", LARGE)
        wide = (Wide, {"count": 300})
        # What is met at once, what is never met, and what more than 600 standings would be looked at for.
        self.check(game, Question(), wide)
        self.check(game, Question(None, None, [("d", "n")]), wide)
        self.check(game, Question(None, ["m"] * 6), wide)
        self.check(game_of("skip " + SIX_HUNDRED, "mark m", LARGE), Question(), wide)

    def test_three_hundred_entries_are_let_by(self):
        game = game_of(THREE_HUNDRED, "mark m", LARGE)
        many, moves = least(game, Question(None, None, [("c", "m"), ("d", "l")]))
        self.assertEqual(many, 0)
        self.assertTrue(brings(game, many, moves, Question(None, None, [("c", "m"), ("d", "l")])))
        self.check(game, Question(None, ["m"], [("d", "n")]), (Never, {}))
        # One follower in its two rooms: 2 * 300 standings, and three times as many of two.
        self.assertEqual(least(game, Question(None, ["m"]))[0], 1)
        self.check(game, Question(None, ["m", "m"]), WIDE)

    def test_never(self):
        never = (Never, {})
        self.check(game_of("wait c b mark in", "mark m"), Question("in"), never)
        self.check(game_of("wait c b mark in", "wait c a write c b mark m"), Question("in", ["m"], [("c", "a")]), never)
        # Also where there are more than 600 standings of a few followers.
        self.check(game_of("stop", "skip " * 10 + "mark m stop mark n"), Question(None, ["n"]), never)

    def test_wide_of_six_hundred_number_by_number(self):
        # In eight rooms there are 330 standings of four followers, and 792 of five.
        game = game_of("stop", "skip " * 6 + "mark m")
        for many in range(5):
            told = least(game, Question(None, ["m"] * many))
            self.assertEqual(told[0], many)
            self.assertTrue(brings(game, told[0], told[1], Question(None, ["m"] * many)))
        self.assertEqual(len(standings(game, 4)), 330)
        self.assertEqual(refused(lambda: standings(game, 5)), WIDE)
        self.check(game, Question(None, ["m"] * 5), WIDE)
        self.check(game, Question(None, ["m"] * 6), WIDE)

    def test_wide_of_six_hundred_ahead_of_beyond_and_just_six_hundred(self):
        # Seven followers would be needed.
        leader = "wait c b write c a " * 7 + "mark in"
        self.check(game_of(leader, "write c b skip skip skip skip skip skip"), Question("in"), WIDE)
        game = game_of("skip " * 3 + "skip", "skip " * 6 + "mark m")
        self.assertEqual(len(standings(game, 3)), 600)
        self.assertEqual(least(game, Question(None, ["m"] * 3))[0], 3)
        self.check(game, Question(None, ["m"] * 4), WIDE)


if __name__ == "__main__":
    unittest.main()
