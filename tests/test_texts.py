"""The texts of games, questions and moves (points 2, 4, 7, 10, 12, 14, 17, 36, 37 and 38)."""

import unittest

from manyboard.boards import Board
from manyboard.errors import BadCount, BadRow, BadText, BoardError, NoCell, NoName, NoValue, Twice
from manyboard.games import Game
from manyboard.questions import Question
from manyboard.reading import read_program
from manyboard.texts import game_rows, move_row, question_row, read_game, read_move, read_question


def refused(call):
    """What a call is refused with, with its fields, or None."""
    try:
        call()
    except BoardError as error:
        return error.__class__, vars(error)
    return None


def bad_row(row):
    return BadRow, {"row": row}


ROWS = ["cell lamp off on", "cell door shut ajar wide", "leader wait lamp on mark in", "follower write lamp on mark out"]

GAMES = [
    ROWS,
    ["cell c a b", "leader", "follower"],
    ["cell c a b", "leader skip", "follower"],
    ["cell c a b", "leader", "follower stop"],
    ["cell leader cell follower", "leader mark leader", "follower mark cell"],
    ["cell a b c d e", "cell b b c d e", "cell c b c d e",
     "leader loop { if a b { write b c } else { choose { } or { while c d { skip } } } }",
     "follower mark skip wait a e stop"],
]


class Games(unittest.TestCase):
    def test_there_and_back(self):
        for rows in GAMES:
            with self.subTest(rows=rows):
                game = read_game(rows)
                self.assertIsInstance(game, Game)
                self.assertEqual(game_rows(game), rows)
                self.assertIsInstance(game_rows(game), list)
                board = Board([(row.split(" ")[1], row.split(" ")[2:]) for row in rows[:-2]])
                self.assertTrue(game.board() == board)
                leader, follower = (read_program(row.partition(" ")[2]) for row in rows[-2:])
                self.assertEqual(game_rows(Game(board, leader, follower)), rows)

    def test_the_game_that_was_read(self):
        game = read_game(ROWS)
        self.assertEqual(game.begin(1), (0, ("off", "shut"), (0,)))
        self.assertEqual(game.played(1, [(1, 0), (0, 0)]), (1, ("on", "shut"), (1,)))
        self.assertEqual((game.machine(0).marks(), game.machine(1).marks()), (["in"], ["out"]))

    def test_by_names_the_askers_own_and_what_is_handed_in_stays(self):
        rows = list(ROWS)
        game = read_game(rows=rows)
        self.assertEqual(rows, ROWS)
        rows.clear()
        told = game_rows(game=game)
        told.clear()
        self.assertEqual(game_rows(game), ROWS)

    def check(self, rows, wanted):
        with self.subTest(rows=rows):
            self.assertEqual(refused(lambda: read_game(rows)), wanted)

    def test_fewer_than_two_rows(self):
        self.check([], bad_row(0))
        for row in ("", "leader", "follower", "cell c a b", "x", " "):
            self.check([row], bad_row(1))

    def test_no_cell_at_all(self):
        self.check(["leader", "follower"], (BadCount, {"what": "cells", "count": 0}))
        self.check(["leader", "leader"], bad_row(1))
        self.check(["follower", "leader"], bad_row(0))

    def test_each_row_that_is_not_of_its_form(self):
        good = ["cell c a b", "cell d a b", "cell e a b", "leader skip", "follower skip"]
        for place in range(5):
            word = good[place].split(" ")[0]
            bad = ["", " ", word + " ", " " + word, good[place] + " ", " " + good[place], good[place].replace(" ", "  "),
                   word + "s a b", "x", word.upper() + " a b", good[place][1:]]
            bad += [row for row in ("cell", "cell a b c", "leader skip", "follower skip", "leader", "follower")
                    if row == "cell" or not row.startswith(word)]
            for row in bad:
                self.check(good[:place] + [row] + good[place + 1:], bad_row(place))
                # The first of several, and ahead of all that is refused behind the form.
                self.check(["cell 9 a"] * place + [row] + ["x"] * (4 - place), bad_row(place)
                           if place < 3 else bad_row(3))

    def test_a_cells_row_has_one_part_more(self):
        self.check(["cell", "leader", "follower"], bad_row(0))
        self.check(["cell c", "leader", "follower"], (BadCount, {"what": "values", "count": 0}))
        self.check(["cell 9", "leader", "follower"], (NoName, {"name": "9"}))

    def test_what_the_board_refuses(self):
        end = ["leader wait f a }", "follower }"]
        self.check(["cell a x y", "cell b x y", "cell c x y", "cell d x y"] + end,
                   (BadCount, {"what": "cells", "count": 4}))
        self.check(["cell C a b"] + end, (NoName, {"name": "C"}))
        self.check(["cell abcdefghijk"] + end, (NoName, {"name": "abcdefghijk"}))
        self.check(["cell c a"] + end, (BadCount, {"what": "values", "count": 1}))
        self.check(["cell c a b c d e"] + end, (BadCount, {"what": "values", "count": 5}))
        self.check(["cell c a 1"] + end, (NoName, {"name": "1"}))
        self.check(["cell c a b a"] + end, (Twice, {"name": "a"}))
        self.check(["cell c a b", "cell c a b"] + end, (Twice, {"name": "c"}))

    def test_then_the_leaders_text_then_the_followers_then_the_game(self):
        cell = ["cell c a b"]
        for text, wanted in (
            ("}", (BadText, {"place": 0})), ("wait c", (BadText, {"place": 2})), ("leader", (BadText, {"place": 0})),
            ("skip " * 24 + "skip", (BadCount, {"what": "statements", "count": 25})),
            ("loop { " * 6 + "} " * 5 + "}", (BadCount, {"what": "depth", "count": 7})),
            ("skip " * 200 + "}", (BadCount, {"what": "parts", "count": 201})),
        ):
            self.check(cell + ["leader " + text, "follower }"], wanted)
            self.check(cell + ["leader wait f a", "follower " + text], wanted)
        self.check(cell + ["leader wait f a", "follower wait g a"], (NoCell, {"name": "f"}))
        self.check(cell + ["leader wait c z", "follower wait g a"], (NoValue, {"cell": "c", "value": "z"}))
        self.check(cell + ["leader skip", "follower wait g a"], (NoCell, {"name": "g"}))
        self.check(cell + ["leader skip", "follower write c z"], (NoValue, {"cell": "c", "value": "z"}))

    def test_rows_of_thousands_of_signs(self):
        self.check(["cell " + "c" * 5000, "leader", "follower"], (NoName, {"name": "c" * 5000}))
        self.check(["cell c" + " a" * 5000, "leader", "follower"], (BadCount, {"what": "values", "count": 5000}))
        self.check(["cell c a b", "leader" + " {" * 5000, "follower"], (BadCount, {"what": "parts", "count": 5000}))
        self.check(["cell c a b"] * 5000 + ["leader", "follower"], (BadCount, {"what": "cells", "count": 5000}))


QUESTIONS = [
    (Question(), "any"),
    (Question("in"), "lead in"),
    (Question(None, ["out"]), "with out"),
    (Question(None, ["out", "a", "out"]), "with out with a with out"),
    (Question(None, None, [("c", "a")]), "holds c a"),
    (Question(None, None, [("d", "a"), ("c", "b")]), "holds d a holds c b"),
    (Question("in", ["a"] * 6, [("c", "a")]), "lead in with a with a with a with a with a with a holds c a"),
    (Question("with", ["with", "holds"], [("holds", "with"), ("lead", "any")]),
     "lead with with with with holds holds holds with holds lead any"),
    (Question("any"), "lead any"),
    (Question("lead", ["any"], [("any", "any")]), "lead lead with any holds any any"),
    (Question("holds", None, [("with", "lead")]), "lead holds holds with lead"),
]

NO_QUESTIONS = [
    "", " ", "lead", "with", "holds", "holds c", "lead ", "with ", "holds  ", "holds c ", "lead  in", "lead in ", " lead in",
    " any", "any ", "any any", "any lead in", "lead in any", "with out any", "lead in lead in", "with out lead in",
    "holds c a with out", "holds c a lead in", "in", "lead in out", "lead in with", "lead in holds", "lead in holds c",
    "with out  with out", "holds c a b", "holds c a holds", "Lead in", "LEAD", "anything", "leads in", "any\n",
    "lead in\nwith out", "\tany", "holds c  a",
]


class Questions(unittest.TestCase):
    def test_there_and_back(self):
        for question, text in QUESTIONS:
            with self.subTest(text):
                self.assertEqual(question_row(question), text)
                self.assertTrue(read_question(text) == question)
                self.assertEqual(question_row(question=read_question(text=text)), text)

    def test_what_is_none(self):
        for text in NO_QUESTIONS:
            with self.subTest(text):
                self.assertEqual(refused(lambda: read_question(text)), bad_row(0))

    def test_behind_the_form_what_the_question_refuses(self):
        for text, wanted in (
            ("with a" + " with a" * 6, (BadCount, {"what": "follows", "count": 7})),
            ("lead 9 with 9" + " with 9" * 6 + " holds 9 9", (BadCount, {"what": "follows", "count": 7})),
            ("lead 9 with 8 holds 7 6", (NoName, {"name": "9"})),
            ("lead a with 8 holds 7 6", (NoName, {"name": "8"})),
            ("lead a with b holds 7 6", (NoName, {"name": "7"})),
            ("lead a with b holds c 6 holds c A", (NoName, {"name": "6"})),
            ("lead a with b holds c d holds c A", (NoName, {"name": "A"})),
            ("lead a with b holds c d holds e d holds c e", (Twice, {"name": "c"})),
        ):
            with self.subTest(text):
                self.assertEqual(refused(lambda: read_question(text)), wanted)
                # The form comes first, however far behind.
                self.assertEqual(refused(lambda: read_question(text + " with")), bad_row(0))
                self.assertEqual(refused(lambda: read_question(text + " ")), bad_row(0))

    def test_thousands_of_signs(self):
        self.assertEqual(refused(lambda: read_question("with a " * 3000 + "with a")),
                         (BadCount, {"what": "follows", "count": 3001}))
        self.assertEqual(refused(lambda: read_question("with a " * 3000 + "with")), bad_row(0))
        self.assertEqual(refused(lambda: read_question("lead " + "a" * 5000)), (NoName, {"name": "a" * 5000}))
        self.assertEqual(refused(lambda: read_question("holds c a " * 2000 + "holds c a")), (Twice, {"name": "c"}))
        self.assertEqual(refused(lambda: read_question("x" * 9999)), bad_row(0))


NO_MOVES = [
    "", " ", "0", "0 ", " 0", "0  0", " 0 0", "0 0 ", "0 0 0", "00 0", "0 00", "01 0", "0 01", "-1 0", "0 -1", "+1 0", "0 +1",
    "1.0 0", "a 0", "0 a", "1_0 0", "0x1 0", "1000000000 0", "0 1000000000", "0 12345678901", "0,0", "0\t0", "0 0\n",
    "\u0661 0", "0 \u00b2", "1e3 0", "0" * 9 + " 0",
]


class Moves(unittest.TestCase):
    def test_there_and_back(self):
        for move, text in (((0, 0), "0 0"), ((1, 0), "1 0"), ((12, 3), "12 3"), ((400, 10), "400 10"),
                           ((999999999, 999999999), "999999999 999999999"), ((100, 100000000), "100 100000000")):
            with self.subTest(text):
                self.assertEqual(move_row(move), text)
                self.assertEqual(read_move(text), move)
                self.assertEqual(read_move(text=move_row(move=move)), move)
                self.assertIsInstance(read_move(text), tuple)

    def test_what_is_none(self):
        for text in NO_MOVES + ["9" * 5000 + " 0", "0 " * 5000]:
            with self.subTest(text[:40]):
                self.assertEqual(refused(lambda: read_move(text)), bad_row(0))


if __name__ == "__main__":
    unittest.main()
