"""Whether it may come about, and how (points 2, 18, 25 and 26)."""

import unittest

from manyboard.boards import Board
from manyboard.crowds import entries
from manyboard.errors import BoardError, Never, NoCell, NoMark, NoValue, Wide
from manyboard.games import Game
from manyboard.questions import Question, met
from manyboard.reading import read_program
from manyboard.sheets import brings
from manyboard.ways import marks_met, may, way

SMALL = Board([("c", ["a", "b"])])
TWO = Board([("c", ["a", "b"]), ("d", ["x", "y"])])
LARGE = Board([("c", ["k", "l", "m", "n"]), ("d", ["k", "l", "m", "n"]), ("e", ["k", "l", "m", "n"])])

# A leader that comes to just 300 entries where the followers leave the board as it is: see test_crowds.
PLACES = [("c", "l"), ("d", "l"), ("e", "l"), ("c", "m"), ("d", "m"), ("e", "m"), ("c", "n")]
THREE_HUNDRED = " ".join("choose { write " + cell + " " + value + " } or { }" for cell, value in PLACES)
THREE_HUNDRED += " skip skip skip wait d k"


def game_of(leader, follower, board=SMALL):
    return Game(board, read_program(leader), read_program(follower))


def refused(call):
    """What a call is refused with, with its fields, or None."""
    try:
        call()
    except BoardError as error:
        return error.__class__, vars(error)
    return None


GAME = game_of("wait c b mark in", "wait c a write c b mark out")

# The first follower that opens stops there, so it takes another one to come to the mark.
OPENING = game_of("stop", "choose { write c b stop } or { wait c b mark m }")


class Case(unittest.TestCase):
    def comes_about(self, game, question):
        with self.subTest(question=vars(question)):
            self.assertIs(may(game, question), True)
            told = way(game, question)
            self.assertIsInstance(told, tuple)
            many, moves = told
            self.assertTrue(0 <= many <= 400)
            self.assertIsInstance(moves, list)
            standing = game.begin(many)
            for move in moves:
                self.assertIsInstance(move, tuple)
                self.assertIn(move, game.moves(standing))
                standing = game.moved(standing, move)
            self.assertTrue(met(game, question, standing))
            self.assertTrue(brings(game, many, moves, question))
            return many

    def never(self, game, question):
        with self.subTest(question=vars(question)):
            self.assertIs(may(game, question), False)
            self.assertEqual(refused(lambda: way(game, question)), (Never, {}))


class Asking(Case):
    def test_nothing_is_asked(self):
        for game in (GAME, OPENING, game_of("", ""), game_of("stop", "stop", TWO)):
            self.comes_about(game, Question())

    def test_no_followers_bring_it_about(self):
        game = game_of("write c b mark in write c a mark out", "mark m")
        for question in (Question("in"), Question("out"), Question(None, None, [("c", "b")]),
                         Question("in", None, [("c", "b")]), Question("out", None, [("c", "a")])):
            self.comes_about(game, question)
        self.never(game, Question("out", None, [("c", "b")]))

    def test_one_follower_brings_it_about(self):
        for question in (Question("in"), Question(None, ["out"]), Question("in", ["out"], [("c", "b")]),
                         Question(None, None, [("c", "b")]), Question("in", None, [("c", "b")])):
            self.assertGreaterEqual(self.comes_about(GAME, question), 1)

    def test_several_followers_bring_it_about(self):
        for many in range(1, 7):
            self.assertGreaterEqual(self.comes_about(GAME, Question(None, ["out"] * many)), many)
            self.assertGreaterEqual(self.comes_about(GAME, Question("in", ["out"] * many, [("c", "b")])), many)
            self.assertGreaterEqual(self.comes_about(OPENING, Question(None, ["m"] * many)), many + 1)

    def test_marks_of_several_rooms(self):
        # 0 mark, 1 choose, 2 mark, 3 stop, 4 mark, 5 the end
        game = game_of("", "mark first choose { mark left stop } or { mark right }")
        self.comes_about(game, Question(None, ["left", "right", "first", "left", "right", "first"]))
        self.comes_about(game, Question(None, ["right", "left"]))

    def test_one_mark_at_several_rooms(self):
        game = game_of("mark in wait c b mark in", "mark m wait c b mark m write c a mark m")
        self.comes_about(game, Question("in", ["m"] * 6))
        self.never(game, Question("in", ["m"] * 6, [("c", "b")]))

    def test_cells(self):
        game = game_of("stop", "choose { write c b } or { write d y }", TWO)
        for c in "ab":
            for d in "xy":
                self.comes_about(game, Question(None, None, [("d", d), ("c", c)]))
        # Where d holds y, c can not come to hold b any more.
        game = game_of("stop", "wait d x write c b wait c b write d y write c a", TWO)
        self.comes_about(game, Question(None, None, [("c", "a"), ("d", "y")]))
        game = game_of("write c b", "wait c b write d y", TWO)
        self.never(game, Question(None, None, [("c", "a"), ("d", "y")]))

    def test_none_brings_it_about(self):
        self.never(GAME, Question("in", None, [("c", "a")]))
        self.never(GAME, Question(None, ["out"], [("c", "a")]))
        self.never(game_of("stop mark in", "mark m"), Question("in"))
        self.never(game_of("mark in", "wait c b mark m"), Question("in", ["m"]))
        # Each mark alone may be met, but not both at the same moment.
        game = game_of("choose { write c b } or { }", "if c a { mark m stop } else { mark n stop }")
        self.comes_about(game, Question(None, ["m", "n"]))
        game = game_of("choose { write c b mark in } or { mark out }", "wait c b mark n")
        self.comes_about(game, Question("in", ["n"]))
        self.never(game, Question("out", ["n"]))

    def test_what_one_follower_undoes_others_do_again(self):
        # The leader goes on only by puts of the followers, each of whom can put once.
        follower = "choose { write c b } or { write c a }"
        waits = "wait c b wait c a " * 11
        game = game_of(waits + "mark in", follower)
        self.assertGreaterEqual(self.comes_about(game, Question("in")), 22)

    def test_more_followers_than_a_hall_has_places_for(self):
        # The leader counts to 8 by d and e; for each count it waits for ten puts of the followers.
        count = ("if d k { write d l } else { if d l { write d m } else { if d m { write d n } else {"
                 " write d k if e k { write e l } else { write e m } } } }")
        game = game_of("loop { " + "wait c l wait c k " * 5 + count + " if e m { mark in stop } else { } }",
                       "choose { write c k } or { write c l }", LARGE)
        self.assertLessEqual(len(entries(game)), 300)
        self.assertGreaterEqual(self.comes_about(game, Question("in")), 80)

    def test_a_way_that_goes_round_and_round(self):
        game = game_of("stop", "loop { wait c b skip wait c a mark m while c a { } write c a }")
        self.never(game, Question(None, ["m"]))
        game = game_of("write c b", "loop { wait c b skip write c a mark m write c b }")
        for state in "ab":
            self.comes_about(game, Question(None, ["m"] * 5, [("c", state)]))

    def test_by_names(self):
        self.assertIs(may(question=Question("in"), game=GAME), True)
        self.assertEqual(way(question=Question("in"), game=GAME), way(GAME, Question("in")))
        self.assertEqual(marks_met(game=GAME), (["in"], ["out"]))

    def test_the_same_at_each_asking(self):
        for question in (Question("in", ["out", "out"]), Question(None, ["out"] * 6, [("c", "b")])):
            many, moves = way(GAME, question)
            kept = list(moves)
            moves.clear()
            self.assertEqual(way(GAME, question), (many, kept))
            self.assertEqual(way(game_of("wait c b mark in", "wait c a write c b mark out"), question), (many, kept))


GAMES = [
    (SMALL, "wait c b mark in", "wait c a write c b mark out"),
    (SMALL, "loop { if c a { write c b mark in } else { mark out } }", "wait c b mark m write c a wait c b mark n"),
    (SMALL, "wait c b wait c a mark in", "while c a { write c b write c a mark m stop }"),
    (SMALL, "mark in wait c b mark out", "choose { write c b stop } or { wait c b mark m write c a mark n }"),
    (TWO, "wait c b mark in wait d y mark out", "if c a { write c b mark m } else { write d y mark n }"),
    (TWO, "write d y mark in wait c b write c a mark out", "wait d y choose { write c b } or { mark m } mark n"),
]


def standings_of(game, many):
    """All standings that so many followers can come to, gone through move by move."""
    first = game.begin(many)
    found = {first}
    waiting = [first]
    while waiting:
        standing = waiting.pop()
        for move in game.moves(standing):
            behind = game.moved(standing, move)
            if behind not in found:
                found.add(behind)
                waiting.append(behind)
    return found


def questions_of(game):
    """Questions of all leads, all pairs of marks and all values of the first cell."""
    cell = game.board().cells()[0]
    marks = game.machine(1).marks()
    follows = [[]] + [[one] for one in marks] + [[one, other] for one in marks for other in marks]
    return [Question(lead, names, holds) for lead in [None, *game.machine(0).marks()] for names in follows
            for holds in [[]] + [[(cell, value)] for value in game.board().values_of(cell)]]


class JustWhere(Case):
    def test_just_where_some_standing_meets_it(self):
        for board, leader, follower in GAMES:
            game = game_of(leader, follower, board)
            found = [standing for many in range(5) for standing in standings_of(game, many)]
            for question in questions_of(game):
                if any(met(game, question, standing) for standing in found):
                    self.comes_about(game, question)
                elif may(game, question):
                    self.assertGreater(self.comes_about(game, question), 4)
                else:
                    self.never(game, question)


class Refused(unittest.TestCase):
    def check(self, game, question, wanted):
        with self.subTest(question=vars(question)):
            self.assertEqual(refused(lambda: may(game, question)), wanted)
            self.assertEqual(refused(lambda: way(game, question)), wanted)

    def check_each(self, game):
        """The refusals of point 18 in their order: of two that are due the first is told."""
        self.check(game, Question("out", ["m"], [("c", "k")]), (NoMark, {"name": "out"}))
        self.check(game, Question("m", ["out"], [("f", "k")]), (NoMark, {"name": "m"}))
        self.check(game, Question("in", ["m", "out", "in"], [("f", "k")]), (NoMark, {"name": "out"}))
        self.check(game, Question("in", ["in"], [("c", "z")]), (NoMark, {"name": "in"}))
        self.check(game, Question("in", ["m"], [("f", "z"), ("c", "z")]), (NoCell, {"name": "f"}))
        self.check(game, Question(None, None, [("c", "z"), ("f", "z")]), (NoValue, {"cell": "c", "value": "z"}))
        self.check(game, Question(None, None, [("d", "k"), ("c", "z")]), (NoValue, {"cell": "c", "value": "z"}))

    def test_what_does_not_fit_the_game(self):
        self.check_each(game_of("mark in", "mark m", LARGE))

    def test_that_comes_ahead_of_wide(self):
        game = game_of("skip " + THREE_HUNDRED + " mark in", "mark m", LARGE)
        self.check_each(game)
        self.check(game, Question("in", ["m"]), (Wide, {"count": 300}))

    def test_wide_behind_three_hundred_entries(self):
        game = game_of(THREE_HUNDRED, "mark m", LARGE)
        self.assertEqual(len(entries(game)), 300)
        self.assertIs(may(game, Question(None, ["m"], [("c", "n"), ("d", "k")])), True)
        self.assertIs(may(game, Question(None, ["m"], [("d", "n")])), False)
        self.assertEqual(refused(lambda: way(game, Question(None, ["m"], [("d", "n")]))), (Never, {}))
        question = Question(None, ["m"], [("c", "n"), ("d", "k"), ("e", "m")])
        many, moves = way(game, question)
        self.assertTrue(brings(game, many, moves, question))
        self.assertEqual(marks_met(game), ([], ["m"]))
        game = game_of("skip " + THREE_HUNDRED, "mark m", LARGE)
        # Also what is met at once, and what is never met.
        for question in (Question(), Question(None, ["m"]), Question(None, None, [("c", "k")]),
                         Question(None, None, [("d", "n")])):
            self.check(game, question, (Wide, {"count": 300}))
        self.assertEqual(refused(lambda: marks_met(game)), (Wide, {"count": 300}))


class Marks(unittest.TestCase):
    def check(self, leader, follower, leads, follows):
        with self.subTest(leader + " / " + follower):
            told = marks_met(game_of(leader, follower))
            self.assertEqual(told, (leads, follows))
            self.assertIsInstance(told, tuple)

    def test_no_marks(self):
        self.check("", "", [], [])
        self.check("skip", "write c b", [], [])

    def test_sorted_each_once(self):
        self.check("mark z mark b mark a mark b mark a10 mark a9", "mark y mark x mark y",
                   ["a", "a10", "a9", "b", "z"], ["x", "y"])

    def test_what_no_hand_comes_to(self):
        self.check("mark a stop mark b", "mark c stop mark d", ["a"], ["c"])
        self.check("wait c b mark a", "wait c b mark a", [], [])
        self.check("if c b { mark a } else { mark b }", "while c b { mark c } mark d", ["b"], ["d"])
        self.check("loop { mark a } mark b", "stop mark c", ["a"], [])

    def test_what_the_leader_alone_or_a_follower_alone_comes_to(self):
        self.check("mark m mark both", "stop mark m", ["both", "m"], [])
        self.check("stop mark m", "mark m mark both", [], ["both", "m"])
        self.check("wait c b mark in", "write c b mark out", ["in"], ["out"])
        self.check("wait c b mark in", "mark out", [], ["out"])
        self.check("write c b mark in", "wait c b mark m", ["in"], ["m"])

    def test_what_takes_several_followers(self):
        self.check("stop", "choose { write c b stop mark n } or { wait c b mark m }", [], ["m"])

    def test_the_askers_own(self):
        game = game_of("mark b mark a", "mark d mark c")
        leads, follows = marks_met(game)
        leads.append("x")
        follows.clear()
        self.assertEqual(marks_met(game), (["a", "b"], ["c", "d"]))


if __name__ == "__main__":
    unittest.main()
