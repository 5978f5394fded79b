"""Desks (points 2, 17, 25 to 29 and 32 to 40)."""

import unittest

from manyboard import errors
from manyboard.counts import least
from manyboard.desk import Desk
from manyboard.errors import BadCount, BadRow, BadText, BoardError, NoCell
from manyboard.sheets import brings
from manyboard.texts import game_rows, question_row, read_game, read_move, read_question
from manyboard.trimming import trimmed
from manyboard.ways import may, way

# Leader: 0 wait, 1 mark, 2 the end. Followers: 0 write, 1 mark, 2 the end.
ROWS = ["cell lamp off on", "cell door shut ajar wide", "leader wait lamp on mark in", "follower write lamp on mark out"]
GAME = read_game(ROWS)

# A leader that comes to just 300 entries where the followers leave the board as it is: see test_crowds.
PLACES = [("c", "l"), ("d", "l"), ("e", "l"), ("c", "m"), ("d", "m"), ("e", "m"), ("c", "n")]
THREE_HUNDRED = " ".join("choose { write " + cell + " " + value + " } or { }" for cell, value in PLACES)
THREE_HUNDRED += " skip skip skip wait d k"
LARGE = ["cell c k l m n", "cell d k l m n", "cell e k l m n"]

BADROW = ["refused badrow"]


def all_of(desk):
    """All that a desk tells of what can be changed."""
    return desk.tell("hall"), desk.tell("bars")


class Case(unittest.TestCase):
    def tells(self, desk, row, wanted):
        with self.subTest(row[:60]):
            told = desk.tell(row)
            self.assertEqual(told, wanted)
            self.assertIsInstance(told, list)
            self.assertTrue(all(isinstance(text, str) for text in told))

    def stays(self, desk, row, wanted):
        """A row is refused, and everything is as it was."""
        before = all_of(desk)
        self.tells(desk, row, wanted)
        self.assertEqual(all_of(desk), before)


class Making(unittest.TestCase):
    def test_refused_as_read_game(self):
        for rows, wanted, fields in (
            ([], BadRow, {"row": 0}), (["leader"], BadRow, {"row": 1}), (["cell c a b", "leader", "x"], BadRow, {"row": 2}),
            (["leader", "follower"], BadCount, {"what": "cells", "count": 0}),
            (["cell c a b", "leader }", "follower wait f a"], BadText, {"place": 0}),
            (["cell c a b", "leader", "follower wait f a"], NoCell, {"name": "f"}),
        ):
            with self.assertRaises(BoardError) as caught:
                Desk(rows)
            self.assertEqual((caught.exception.__class__, vars(caught.exception)), (wanted, fields))

    def test_by_names_and_what_is_handed_in_stays(self):
        rows = list(ROWS)
        desk = Desk(rows=rows)
        self.assertEqual(rows, ROWS)
        rows.clear()
        self.assertEqual(desk.tell(row="game"), ROWS)


class Changing(Case):
    def test_join(self):
        desk = Desk(ROWS)
        for number in range(1, 61):
            self.tells(desk, "join", [str(number)])
        self.stays(desk, "join", ["refused full"])
        self.tells(desk, "leave 3", ["done"])
        self.tells(desk, "join", ["61"])

    def test_leave_and_move(self):
        desk = Desk(ROWS)
        for _ in range(3):
            desk.tell("join")
        self.tells(desk, "move 2 0", ["done"])
        self.tells(desk, "move 0 0", ["done"])
        self.tells(desk, "leave 1", ["done"])
        self.tells(desk, "hall", ["lead 1", "cell lamp on", "cell door shut", "hand 2 1", "hand 3 0"])
        self.stays(desk, "leave 1", ["refused nohand"])
        self.stays(desk, "leave 0", ["refused nohand"])
        self.stays(desk, "leave 999999999", ["refused nohand"])
        self.stays(desk, "move 1 0", ["refused nohand"])
        self.stays(desk, "move 4 0", ["refused nohand"])
        self.stays(desk, "move 2 1", ["refused nostep"])
        self.stays(desk, "move 0 999999999", ["refused nostep"])
        self.stays(Desk(ROWS), "move 0 0", ["refused shut"])

    def test_bar_and_lift(self):
        desk = Desk(ROWS)
        self.tells(desk, "bars", [])
        self.tells(desk, "bar x holds door ajar", ["done"])
        self.tells(desk, "bar any lead in holds lamp off", ["done"])
        self.tells(desk, "bar bar with out holds door wide holds lamp on", ["done"])
        self.tells(desk, "bars", ["any", "bar", "x"])
        self.stays(desk, "bar any holds door ajar", ["refused twice"])
        self.stays(desk, "bar any any", ["refused twice"])
        self.tells(desk, "bar a0 holds door wide", ["done"])
        self.stays(desk, "bar b holds door wide", ["refused badcount"])
        self.stays(desk, "bar b any", ["refused badcount"])
        self.tells(desk, "lift bar", ["done"])
        self.tells(desk, "bars", ["a0", "any", "x"])
        self.stays(desk, "lift bar", ["refused nobar"])
        self.stays(desk, "lift 9", ["refused nobar"])
        self.stays(desk, "lift lift", ["refused nobar"])

    def test_which_refusal_of_a_bar_comes_first(self):
        desk = Desk(ROWS)
        desk.tell("bar x holds door ajar")
        six = "with out " * 6
        for row, word in (
            ("bar 9", "badrow"), ("bar 9 lead", "badrow"), ("bar x lead in ", "badrow"), ("bar  any", "badrow"),
            ("bar 9 " + six + "with out", "badcount"), ("bar 9 lead 9", "noname"), ("bar x holds c 9", "noname"),
            ("bar 9 holds c a holds c b", "twice"), ("bar x " + six + "with 9", "badcount"),
            ("bar 9 lead x", "noname"), ("bar X any", "noname"), ("bar abcdefghijk any", "noname"),
            ("bar x lead x", "twice"), ("bar x any", "twice"),
            ("bar y lead x with x holds x x", "nomark"), ("bar y with in holds x x", "nomark"),
            ("bar y holds x x holds lamp x", "nocell"), ("bar y holds lamp x holds x x", "novalue"),
        ):
            self.stays(desk, row, ["refused " + word])

    def test_barred(self):
        desk = Desk(ROWS)
        for text in ("any", "lead in", "with out with out", "lead in with out with out with out holds lamp on", "holds lamp on"):
            told = desk.tell("bar y " + text)
            many, moves = way(GAME, read_question(text))
            self.assertEqual(told[:2], ["refused barred", str(many)])
            self.assertEqual([read_move(row) for row in told[2:]], moves)
            self.stays(desk, "bar y " + text, ["refused barred"] + desk.tell("way " + text))
        self.tells(desk, "bar y lead in with out", ["refused barred", "1", "1 0", "0 0"])

    def test_a_refused_row_changes_nothing(self):
        desk = Desk(ROWS)
        desk.tell("join")
        desk.tell("bar x holds door ajar")
        for row in ("leave 2", "leave 01", "leave -1", "leave", "move 1", "move 1 00", "move 1 1", "move 1 0 0", "move 1  0",
                    "join 1", "joins", "bar y any", "bar y", "lift y", "lift x x", "lift", " join", "join ", "JOIN"):
            before = all_of(desk)
            self.assertEqual(desk.tell(row)[0].split(" ")[0], "refused", row)
            self.assertEqual(all_of(desk), before)
        self.tells(desk, "join", ["2"])


class Asking(Case):
    def test_may(self):
        desk = Desk(ROWS)
        for text, wanted in (("any", "yes"), ("lead in", "yes"), ("lead in with out with out with out", "yes"),
                             ("lead in holds lamp off", "no"), ("holds door ajar", "no"), ("holds lamp off", "yes")):
            self.tells(desk, "may " + text, [wanted])

    def test_way_and_least(self):
        desk = Desk(ROWS)
        for text in ("any", "lead in", "with out with out with out", "lead in with out with out holds lamp on", "holds lamp on"):
            question = read_question(text)
            for word, function in (("way", way), ("least", least)):
                told = desk.tell(word + " " + text)
                many, moves = function(GAME, question)
                self.assertEqual(told[0], str(many))
                self.assertEqual([read_move(row) for row in told[1:]], moves)
                self.assertTrue(brings(GAME, int(told[0]), [read_move(row) for row in told[1:]], question))
        self.tells(desk, "least any", ["0"])
        self.tells(desk, "way lead in", ["1", "1 0", "0 0"])
        self.tells(desk, "least lead in", ["1", "1 0", "0 0"])
        self.tells(desk, "way holds door ajar", ["refused never"])
        self.tells(desk, "least holds door ajar", ["refused never"])

    def test_meets_is_of_the_hall_and_the_others_of_the_game(self):
        desk = Desk(ROWS)
        self.tells(desk, "meets with out", ["no"])
        self.tells(desk, "meets holds lamp off", ["yes"])
        asked = ["may with out", "may lead in holds lamp off", "way with out with out", "least lead in with out", "marks",
                 "trim", "game", "may holds lamp off", "way holds lamp off", "least holds lamp off", "least any"]
        before = [desk.tell(row) for row in asked]
        for row in ("join", "join", "move 1 0", "move 0 0", "move 0 0"):
            self.assertNotIn("refused", desk.tell(row)[0])
        self.tells(desk, "meets with out", ["yes"])
        self.tells(desk, "meets with out with out", ["no"])
        self.tells(desk, "meets holds lamp off", ["no"])
        self.tells(desk, "meets lead in", ["no"])
        self.tells(desk, "meets any", ["yes"])
        self.assertEqual([desk.tell(row) for row in asked], before)
        self.assertEqual(before[7:9], [["yes"], ["0"]])

    def test_marks(self):
        self.tells(Desk(ROWS), "marks", ["lead in", "with out"])
        self.tells(Desk(["cell c a b", "leader mark z mark b stop mark a", "follower wait c b mark m"]), "marks",
                   ["lead b z", "with"])
        self.tells(Desk(["cell c a b", "leader", "follower mark n mark m mark n"]), "marks", ["lead", "with m n"])
        self.tells(Desk(["cell c a b", "leader", "follower"]), "marks", ["lead", "with"])

    def test_trim(self):
        self.tells(Desk(ROWS), "trim", ROWS)
        rows = ["cell c a b", "cell d x y", "leader if c b { mark a } else { stop skip } skip", "follower stop write c b"]
        desk = Desk(rows)
        self.tells(desk, "trim", rows[:2] + ["leader if c b { } else { stop }", "follower stop"])
        game = read_game(rows)
        self.assertEqual([str(program) for program in trimmed(game)], ["if c b { } else { stop }", "stop"])
        self.tells(Desk(desk.tell("trim")), "trim", desk.tell("trim"))
        self.tells(desk, "game", rows)

    def test_game(self):
        for rows in (ROWS, ["cell c a b", "leader", "follower"], ["cell c a b", "leader stop mark m", "follower"]):
            desk = Desk(rows)
            self.tells(desk, "game", rows)
            # The rows that game tells read again.
            self.tells(Desk(desk.tell("game")), "game", rows)
            self.assertEqual(game_rows(read_game(desk.tell("game"))), rows)

    def test_hall(self):
        desk = Desk(ROWS)
        self.tells(desk, "hall", ["lead 0", "cell lamp off", "cell door shut"])
        for _ in range(11):
            desk.tell("join")
        desk.tell("move 10 0")
        desk.tell("move 10 0")
        desk.tell("leave 4")
        self.tells(desk, "hall", ["lead 0", "cell lamp on", "cell door shut"] + [
            "hand " + str(hand) + (" 2" if hand == 10 else " 0") for hand in range(1, 12) if hand != 4])

    def test_what_questions_refuse(self):
        desk = Desk(ROWS)
        for word in ("may", "way", "least", "meets"):
            for text, wanted in (
                ("lead out", "nomark"), ("with in", "nomark"), ("holds bell a", "nocell"), ("holds lamp ajar", "novalue"),
                ("lead out with in holds bell a", "nomark"), ("lead 9", "noname"), ("with out " * 6 + "with out", "badcount"),
                ("lead 9 holds lamp on holds lamp off", "noname"), ("holds lamp on holds lamp off", "twice"),
                ("lead x holds lamp on holds lamp off", "twice"),
            ):
                self.stays(desk, word + " " + text, ["refused " + wanted])

    def test_wide(self):
        desk = Desk(LARGE + ["leader skip " + THREE_HUNDRED, "follower mark m"])
        for row in ("may any", "way any", "least any", "marks", "trim", "bar x any", "bar x holds d n", "may with m"):
            self.stays(desk, row, ["refused wide"])
        self.tells(desk, "meets any", ["yes"])
        self.stays(desk, "may lead m", ["refused nomark"])
        self.stays(desk, "bar x lead m", ["refused nomark"])
        desk = Desk(LARGE + ["leader " + THREE_HUNDRED, "follower mark m"])
        self.tells(desk, "may any", ["yes"])
        self.tells(desk, "marks", ["lead", "with m"])
        self.tells(desk, "bar x holds d n", ["done"])
        # Two followers come to more than 600 standings.
        self.tells(desk, "least with m with m", ["refused wide"])

    def test_beyond(self):
        desk = Desk(["cell c a b", "leader " + "wait c b write c a " * 7 + "mark in", "follower write c b"])
        self.tells(desk, "may lead in", ["yes"])
        self.tells(desk, "least lead in", ["refused beyond"])
        told = desk.tell("way lead in")
        self.assertGreaterEqual(int(told[0]), 7)
        self.assertEqual(desk.tell("bar x lead in"), ["refused barred"] + told)


# Rows that are none, each for its form or its numbers alone.
NO_ROWS = [
    "", " ", "  ", "x", "done", "Join", "JOIN", "join ", " join", "join 1", "join join", "join\n", "jo in",
    "leave", "leave ", "leave  1", "leave 1 ", "leave 01", "leave 00", "leave -1", "leave +1", "leave a", "leave 1 2",
    "leave 1000000000", "leave 1.0", "leave 1_0", "leave \u0661", "leave \u00b9", "leave 1\n", "leave " + "9" * 4000,
    "move", "move 0", "move 0 ", "move 0  0", "move 0 0 0", "move 00 0", "move 0 00", "move 0 -1", "move a 0", "move 0 a",
    "move 0 1000000000", "move 1000000000 0", "move 0 0 ", "move -1 0",
    "bar", "bar ", "bar any", "bar x", "bar x ", "bar  any", "bar x  any", "bar x any any", "bar x lead", "bar x with",
    "bar x holds c", "bar x y", "bar x any ", "bars x", "bars ", "bars any",
    "lift", "lift ", "lift x y", "lift  x", "lift x ", "lift  ",
    "may", "may ", "may x", "may any any", "may lead", "may lead in lead in", "may with out lead in", "may  any", "may any ",
    "may holds c", "mayany", "way", "way x", "way lead in with", "least", "least x", "least holds", "meets", "meets in",
    "meets lead in out", "marks x", "marks ", "marks lead", "trim x", "trim ", "game x", "game ", "hall x", "hall 0",
    "hall ", "told", "story", "lead in", "any", "cell c a b", "leader skip", "standing", "gam\u00e9", "\u0000", "%", "x" * 9999,
    " " * 5000, "join " * 3000, "bar x" + " x" * 4000, "may " + "with out " * 3000 + "with",
]


class NoRows(Case):
    def test_badrow(self):
        desk = Desk(ROWS)
        desk.tell("join")
        desk.tell("bar x holds door ajar")
        for row in NO_ROWS:
            self.stays(desk, row, BADROW)
        self.tells(desk, "join", ["2"])

    def test_every_word_with_too_little_and_too_much(self):
        desk = Desk(ROWS)
        for row in ("join", "leave 1", "move 1 0", "lift x", "marks", "trim", "game", "hall", "bars", "may any", "way any",
                    "least any", "meets any", "bar x any"):
            for wrong in (row + " x", row + " ", " " + row, row + " 0", row[:-1] if " " not in row else row.rpartition(" ")[0],
                          row.replace(" ", "  ") + "  ", row.upper()):
                self.stays(desk, wrong, BADROW)

    def test_rows_of_thousands_of_signs(self):
        desk = Desk(ROWS)
        self.stays(desk, "bar " + "x" * 9000 + " any", ["refused noname"])
        self.stays(desk, "lift " + "x" * 9000, ["refused nobar"])
        self.stays(desk, "may lead " + "x" * 9000, ["refused noname"])
        self.stays(desk, "may " + "with out " * 3000 + "with out", ["refused badcount"])
        self.stays(desk, "way " + "holds lamp on " * 3000 + "holds lamp on", ["refused twice"])


class Words(Case):
    def test_the_class_in_small_letters(self):
        # Each refusal that a desk can answer with; the others come from a text that no row brings in.
        wide = Desk(LARGE + ["leader skip " + THREE_HUNDRED, "follower mark m"])
        beyond = Desk(["cell c a b", "leader " + "wait c b write c a " * 7 + "mark in", "follower write c b"])
        full = Desk(ROWS)
        for _ in range(60):
            full.tell("join")
        desk = Desk(ROWS)
        answers = {
            "BadCount": desk.tell("may " + "with out " * 6 + "with out"), "NoName": desk.tell("may lead X"),
            "Twice": desk.tell("may holds lamp on holds lamp on"), "NoCell": desk.tell("may holds x x"),
            "NoValue": desk.tell("may holds lamp x"), "NoHand": desk.tell("leave 1"), "NoStep": desk.tell("move 0 5"),
            "Shut": desk.tell("move 0 0"), "NoMark": desk.tell("may lead x"), "Wide": wide.tell("marks"),
            "Never": desk.tell("way holds door wide"), "Beyond": beyond.tell("least lead in"), "Full": full.tell("join"),
            "NoBar": desk.tell("lift x"), "Barred": desk.tell("bar x any")[:1], "BadRow": desk.tell("x"),
        }
        for name, told in answers.items():
            self.assertTrue(issubclass(getattr(errors, name), BoardError))
            self.assertEqual(told, ["refused " + name.lower()])


class TwoDesks(Case):
    def test_by_turns(self):
        one, other = Desk(ROWS), Desk(ROWS)
        for number in range(1, 4):
            self.tells(one, "join", [str(number)])
        self.tells(other, "join", ["1"])
        self.tells(one, "move 3 0", ["done"])
        self.tells(one, "bar x holds door ajar", ["done"])
        self.tells(other, "hall", ["lead 0", "cell lamp off", "cell door shut", "hand 1 0"])
        self.tells(other, "bars", [])
        self.tells(other, "bar x holds door wide", ["done"])
        self.tells(other, "leave 2", ["refused nohand"])
        self.tells(one, "leave 2", ["done"])
        self.tells(other, "meets holds lamp on", ["no"])
        self.tells(one, "meets holds lamp on", ["yes"])
        self.tells(one, "hall", ["lead 0", "cell lamp on", "cell door shut", "hand 1 0", "hand 3 1"])

    def test_the_answers_are_the_askers_own(self):
        desk = Desk(ROWS)
        desk.tell("join")
        desk.tell("bar x holds door ajar")
        for row in ("game", "hall", "bars", "marks", "trim", "way lead in", "least lead in", "may any", "bar y lead in"):
            kept = list(desk.tell(row))
            desk.tell(row).clear()
            desk.tell(row).append("x")
            self.assertEqual(desk.tell(row), kept)

    def test_no_other_thing_is_equal(self):
        desk = Desk(ROWS)
        for thing in (None, 0, "", [], (), ROWS):
            self.assertFalse(desk == thing)


class AgainstTheFunctions(Case):
    def test_questions_of_a_game_with_more_to_it(self):
        rows = ["cell c a b", "cell d x y",
                "leader loop { wait c b mark in write c a if d y { mark out write d x } else { } }",
                "follower choose { wait d x write c b mark m } or { wait c a write d y mark n }"]
        game = read_game(rows)
        desk = Desk(rows)
        for lead in ("", "lead in ", "lead out "):
            for follows in ("", "with m ", "with n with n ", "with m with n with m "):
                for holds in ("holds c a", "holds c b holds d y", "holds d x"):
                    text = lead + follows + holds
                    question = read_question(text)
                    self.assertEqual(question_row(question), text)
                    self.tells(desk, "may " + text, ["yes" if may(game, question) else "no"])
                    if may(game, question):
                        self.assertTrue(brings(game, *way(game, question), question))
                        self.assertEqual(desk.tell("bar x " + text)[1:], desk.tell("way " + text))
                    else:
                        self.tells(desk, "way " + text, ["refused never"])
                        self.tells(desk, "bar x " + text, ["done"])
                        self.tells(desk, "lift x", ["done"])


if __name__ == "__main__":
    unittest.main()
