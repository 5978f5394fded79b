"""What is left out because no hand ever comes to it (points 2, 12, 21 and 27)."""

import random
import unittest

from manyboard.boards import Board
from manyboard.counts import least
from manyboard.crowds import entries
from manyboard.errors import Wide
from manyboard.games import Game
from manyboard.questions import Question, met
from manyboard.reading import read_program
from manyboard.trees import Choose, If, Loop, Mark, Program, Skip, Stop, Wait, While, Write
from manyboard.trimming import trimmed
from manyboard.ways import marks_met, may

SMALL = Board([("c", ["a", "b"])])
TWO = Board([("c", ["a", "b"]), ("d", ["x", "y"])])
LARGE = Board([("c", ["k", "l", "m", "n"]), ("d", ["k", "l", "m", "n"]), ("e", ["k", "l", "m", "n"])])

# A leader that comes to just 300 entries where the followers leave the board as it is: see test_crowds.
PLACES = [("c", "l"), ("d", "l"), ("e", "l"), ("c", "m"), ("d", "m"), ("e", "m"), ("c", "n")]
THREE_HUNDRED = " ".join("choose { write " + cell + " " + value + " } or { }" for cell, value in PLACES)
THREE_HUNDRED += " skip skip skip wait d k"


def game_of(leader, follower, board=SMALL):
    return Game(board, read_program(leader), read_program(follower))


class Cut(unittest.TestCase):
    def check(self, leader, follower, lead_left, follow_left, board=SMALL):
        with self.subTest(leader + " / " + follower):
            game = game_of(leader, follower, board)
            told = trimmed(game)
            self.assertIsInstance(told, tuple)
            self.assertEqual([program.__class__ for program in told], [Program, Program])
            self.assertEqual([str(program) for program in told], [lead_left, follow_left])
            self.assertTrue(told[0] == read_program(lead_left) and told[1] == read_program(follow_left))
            # Cut again it stays, and what was handed in is as it was.
            again = trimmed(game=Game(board, *told))
            self.assertTrue(again[0] == told[0] and again[1] == told[1])
            self.assertEqual([str(game.program(0)), str(game.program(1))], [leader, follower])

    def stays(self, leader, follower, board=SMALL):
        self.check(leader, follower, leader, follower, board)

    def test_nothing_to_cut(self):
        self.stays("", "")
        self.stays("stop", "stop")
        self.stays("skip mark m write c b wait c b", "write c b wait c b write c a mark m")
        self.stays("write c b wait c a", "wait c b choose { mark m } or { stop } skip")
        self.stays("loop { if c a { write c b } else { write c a } }", "while c a { skip } mark m")
        self.stays("loop { }", "while c a { }")
        self.stays("choose { } or { }", "if c a { } else { }")

    def test_at_the_top(self):
        self.check("skip stop mark m skip", "", "skip stop", "")
        self.check("wait c b mark m", "wait c b mark m", "wait c b", "wait c b")
        self.check("loop { skip } mark m", "loop { } skip", "loop { skip }", "loop { }")
        self.check("stop choose { mark a } or { mark b }", "stop stop", "stop", "stop")
        self.check("choose { stop } or { loop { } } skip", "", "choose { stop } or { loop { } }", "")

    def test_within_yes_and_no(self):
        self.check("if c b { mark a skip } else { mark b stop skip } mark m", "",
                   "if c b { } else { mark b stop }", "")
        self.check("if c a { mark a stop skip } else { mark b } mark m", "", "if c a { mark a stop } else { }", "")
        self.check("", "if c a { skip } else { mark n } mark m", "", "if c a { skip } else { } mark m")
        self.check("", "if c b { mark n } else { skip } mark m", "", "if c b { } else { skip } mark m")

    def test_within_body(self):
        self.check("while c b { mark a } mark m", "while c a { stop mark n } mark m",
                   "while c b { } mark m", "while c a { stop }")
        self.check("loop { skip stop mark m } skip", "loop { wait c b write c b }",
                   "loop { skip stop }", "loop { wait c b }")

    def test_within_one_and_other(self):
        self.check("choose { wait c b mark a } or { stop mark b } mark m", "",
                   "choose { wait c b } or { stop }", "")
        self.check("", "choose { mark a loop { } skip } or { mark b wait c b skip }",
                   "", "choose { mark a loop { } } or { mark b wait c b }")

    def test_within_rows_deeper_in(self):
        self.check("choose { while c a { if c b { mark x } else { loop { skip stop skip } skip } skip } mark y } or { }",
                   "", "choose { while c a { if c b { } else { loop { skip stop } } } } or { }", "")

    def test_the_leaders_by_the_leaders_rooms_and_the_followers_by_theirs(self):
        program = "wait c b mark m write c a mark n"
        self.check(program, program, "wait c b", "wait c b")
        self.check("skip wait c b mark m", "wait c a write c b mark n", "skip wait c b mark m",
                   "wait c a write c b mark n")
        self.check("stop mark m mark n", "mark m stop mark n", "stop", "mark m stop")
        self.check("mark m stop mark n", "stop mark m mark n", "mark m stop", "stop")
        self.check("write c b skip", "wait c b mark m", "write c b skip", "wait c b mark m")

    def test_what_only_several_followers_come_to_stays(self):
        self.stays("stop", "choose { write c b stop } or { wait c b mark m }")

    def test_what_is_come_to_at_one_state_only(self):
        self.check("write d y", "wait d y if c b { mark m } else { mark n } wait c b skip",
                   "write d y", "wait d y if c b { } else { mark n } wait c b", TWO)

    def test_parts_of_what_is_cut_are_gone_with_it(self):
        self.check("stop if c a { mark a } else { mark b }", "wait c b loop { mark m }", "stop", "wait c b")


class TheSameObjectAtSeveralPlaces(unittest.TestCase):
    def test_a_statement(self):
        mark = Mark("m")
        leader = Program([mark, Wait("c", "b"), mark])
        told = trimmed(Game(SMALL, leader, leader))
        self.assertEqual([str(program) for program in told], ["mark m wait c b", "mark m wait c b"])
        self.assertEqual(str(leader), "mark m wait c b mark m")

    def test_a_statement_with_programs_within_it(self):
        look = If("c", "a", Program([Mark("x")]), Program([Mark("y")]))
        leader = Program([look, Write("c", "b"), look, Stop(), look])
        told, _ = trimmed(Game(SMALL, leader, Program([])))
        self.assertEqual(str(told), "if c a { mark x } else { } write c b if c a { } else { mark y } stop")

    def test_a_program(self):
        part = Program([Skip(), Wait("c", "b"), Mark("m")])
        leader = Program([Choose(part, Program([Write("c", "b"), Loop(part)]))])
        told, _ = trimmed(Game(SMALL, leader, Program([])))
        self.assertEqual(str(told), "choose { skip wait c b } or { write c b loop { skip wait c b mark m } }")
        _, told = trimmed(Game(SMALL, Program([]), Program([While("c", "b", part), Choose(part, part)])))
        self.assertEqual(str(told), "while c b { } choose { skip wait c b } or { skip wait c b }")


GAMES = [
    (SMALL, "wait c b mark in stop mark out", "if c a { write c b mark m } else { mark n stop skip } mark o"),
    (SMALL, "loop { wait c b write c a mark in } mark out", "choose { write c b stop mark m } or { wait c b mark n }"),
    (SMALL, "if c b { mark in } else { skip } write c b mark out", "while c b { mark m write c a } wait c b mark n"),
    (TWO, "wait c b if d y { mark in } else { write d y wait c a mark out }",
     "wait d x choose { write c b stop skip } or { wait d y mark m } mark n"),
    (TWO, "loop { skip if c b { stop mark in } else { } }", "while d x { write d y stop } mark m write c b mark n"),
]


def marks_at(game, standing):
    lead, state, rooms = standing
    return game.machine(0).mark_of(lead), state, [game.machine(1).mark_of(room) for room in rooms]


class JustAsTheFirstGame(unittest.TestCase):
    def test_rows_of_moves(self):
        chance = random.Random(27)
        for board, leader, follower in GAMES:
            game = game_of(leader, follower, board)
            cut = Game(board, *trimmed(game))
            for many in (0, 1, 2, 3, 3, 3):
                standing, other = game.begin(many), cut.begin(many)
                for _ in range(30):
                    moves = game.moves(standing)
                    self.assertEqual(cut.moves(other), moves)
                    self.assertEqual(marks_at(cut, other), marks_at(game, standing))
                    if moves:
                        move = chance.choice(moves)
                        standing, other = game.moved(standing, move), cut.moved(other, move)

    def test_questions(self):
        for board, leader, follower in GAMES:
            game = game_of(leader, follower, board)
            cut = Game(board, *trimmed(game))
            self.assertLessEqual(len(entries(cut)), len(entries(game)))
            self.assertEqual(marks_met(cut), marks_met(game))
            # A mark that is left out is one that is never met.
            self.assertEqual((cut.machine(0).marks(), cut.machine(1).marks()), marks_met(game))
            for lead in [None, *cut.machine(0).marks()]:
                for follows in [[], *[[one, other] for one in cut.machine(1).marks()
                                      for other in cut.machine(1).marks()]]:
                    question = Question(lead, follows)
                    self.assertIs(may(cut, question), may(game, question))
                    if may(game, question):
                        many, moves = least(cut, question)
                        self.assertEqual(least(game, question)[0], many)
                        self.assertTrue(met(game, question, game.played(many, moves)))


class TooWide(unittest.TestCase):
    def test_wide_behind_three_hundred_entries(self):
        told = trimmed(game_of(THREE_HUNDRED, "stop skip", LARGE))
        self.assertEqual([str(program) for program in told], [THREE_HUNDRED, "stop"])
        with self.assertRaises(Wide) as caught:
            trimmed(game_of("skip " + THREE_HUNDRED, "stop skip", LARGE))
        self.assertEqual(caught.exception.count, 300)


if __name__ == "__main__":
    unittest.main()
