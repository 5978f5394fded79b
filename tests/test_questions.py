"""Questions (points 2, 3, 17, 18 and 19)."""

import unittest

from manyboard.boards import Board
from manyboard.errors import BadCount, BoardError, NoCell, NoMark, NoName, NoValue, Twice
from manyboard.games import Game
from manyboard.questions import Question, met
from manyboard.reading import read_program
from manyboard.sheets import brings, shuts_out

BOARD = Board([("lamp", ["off", "on"]), ("door", ["shut", "ajar", "wide"])])

# Rooms: 0 mark in, 1 skip, 2 mark out, 3 mark in, 4 the end.
LEADER = "mark in skip mark out mark in"
# Rooms: 0 skip, 1 mark a, 2 mark b, 3 mark a, 4 the end.
FOLLOWER = "skip mark a mark b mark a"

GAME = Game(BOARD, read_program(LEADER), read_program(FOLLOWER))
FIRST = ("off", "shut")


def refused(call):
    """What a call is refused with, with its fields, or None."""
    try:
        call()
    except BoardError as error:
        return error.__class__, vars(error)
    return None


class Making(unittest.TestCase):
    def check(self, question, lead, follows, holds):
        self.assertEqual(vars(question), {"lead": lead, "follows": follows, "holds": holds})
        self.assertIsInstance(question.follows, tuple)
        self.assertIsInstance(question.holds, tuple)
        for pair in question.holds:
            self.assertIsInstance(pair, tuple)

    def test_nothing_is_asked(self):
        for question in (Question(), Question(None), Question(None, None), Question(None, None, None),
                         Question(None, [], []), Question(follows=[]), Question(holds=[]), Question(holds=None)):
            self.check(question, None, (), ())

    def test_fields(self):
        self.check(Question("in"), "in", (), ())
        self.check(Question("in", ["a"]), "in", ("a",), ())
        self.check(Question(follows=["b", "a", "b"]), None, ("b", "a", "b"), ())
        self.check(Question(holds=[("lamp", "on")]), None, (), (("lamp", "on"),))
        self.check(Question("in", ["a", "a"], [("door", "wide"), ("lamp", "off")]),
                   "in", ("a", "a"), (("door", "wide"), ("lamp", "off")))
        self.check(Question(holds=[("x", "y")], follows=["m"], lead="n"), "n", ("m",), (("x", "y"),))

    def test_six_follows_and_seven(self):
        self.check(Question(follows=["a"] * 6), None, ("a",) * 6, ())
        for many in (7, 8, 30):
            wanted = (BadCount, {"what": "follows", "count": many})
            self.assertEqual(refused(lambda: Question(follows=["a"] * many)), wanted)
            self.assertEqual(refused(lambda: Question("9", ["9"] * many, [("9", "9")])), wanted)

    def test_no_name_at_each_place_and_which_comes_first(self):
        texts = ["in", "a", "b", "lamp", "on", "door", "shut"]
        for place in range(len(texts)):
            for text in ("", "9", "A", "a b", "abcdefghijk"):
                # From this place on no text is a name, and the first of these is told.
                told = texts[:place] + [text] + ["!"] * (len(texts) - place - 1)
                with self.subTest(told=told):
                    self.assertEqual(
                        refused(lambda: Question(told[0], told[1:3], [(told[3], told[4]), (told[5], told[6])])),
                        (NoName, {"name": text}))

    def test_a_lead_without_signs_is_a_text_that_is_no_name(self):
        self.assertEqual(refused(lambda: Question("")), (NoName, {"name": ""}))

    def test_a_cell_told_twice(self):
        for holds, name in (
            ([("a", "x"), ("a", "y")], "a"), ([("a", "x"), ("a", "x")], "a"),
            ([("a", "x"), ("b", "x"), ("b", "y"), ("a", "z")], "b"),
            ([("a", "x"), ("b", "x"), ("a", "y"), ("b", "z")], "a"),
        ):
            self.assertEqual(refused(lambda: Question(holds=holds)), (Twice, {"name": name}))
        self.assertIsNone(refused(lambda: Question(holds=[("a", "x"), ("b", "x"), ("c", "a")])))

    def test_names_come_ahead_of_twice(self):
        holds = [("a", "x"), ("a", "y"), ("b", "X")]
        self.assertEqual(refused(lambda: Question(holds=holds)), (NoName, {"name": "X"}))

    def test_lists_changed_afterwards(self):
        follows, holds = ["a", "b"], [("lamp", "on")]
        question = Question("in", follows, holds)
        self.assertEqual((follows, holds), (["a", "b"], [("lamp", "on")]))
        follows.append("c")
        holds.clear()
        self.check(question, "in", ("a", "b"), (("lamp", "on"),))


class Equality(unittest.TestCase):
    def questions(self):
        return [
            Question(), Question("a"), Question("b"), Question(None, ["a"]), Question(None, ["a", "a"]),
            Question(None, ["a", "b"]), Question(None, ["b", "a"]), Question("a", ["a"]),
            Question(None, None, [("a", "b")]), Question(None, None, [("b", "a")]),
            Question(None, None, [("a", "b"), ("b", "a")]), Question(None, None, [("b", "a"), ("a", "b")]),
            Question("a", ["a"], [("a", "b")]), Question("a", ["b"], [("a", "b")]), Question("a", ["a"], [("a", "a")]),
        ]

    def test_where_all_fields_are(self):
        for place, question in enumerate(self.questions()):
            for at, another in enumerate(self.questions()):
                with self.subTest(place=place, at=at):
                    self.assertEqual(question == another, place == at)
                    self.assertEqual(question != another, place != at)

    def test_what_is_left_out_is_alike(self):
        self.assertTrue(Question() == Question(None, [], []))
        self.assertTrue(Question("a") == Question("a", None, []))

    def test_things_of_other_kinds(self):
        for question in self.questions():
            for thing in (None, 0, True, "", "a", "any", [], (), (None, (), ()), {}, BOARD, GAME, NoMark("a")):
                self.assertFalse(question == thing)
                self.assertFalse(thing == question)


class Met(unittest.TestCase):
    def check(self, question, room, state, rooms, wanted):
        with self.subTest(question=vars(question), room=room, state=state, rooms=rooms):
            told = met(GAME, question, (room, state, rooms))
            self.assertIs(told, wanted)
            self.assertIs(met(game=GAME, question=question, standing=(room, state, rooms)), wanted)

    def test_what_asks_nothing_is_always_met(self):
        for room in range(5):
            for state in (FIRST, ("on", "wide")):
                for rooms in ((), (0,), (1, 2, 3, 4)):
                    self.check(Question(), room, state, rooms, True)

    def test_the_mark_of_the_leader(self):
        for room, wanted in enumerate([True, False, False, True, False]):
            self.check(Question("in"), room, FIRST, (1, 2), wanted)
        for room, wanted in enumerate([False, False, True, False, False]):
            self.check(Question("out"), room, FIRST, (), wanted)

    def test_one_mark_of_followers(self):
        for rooms, wanted in (((), False), ((0,), False), ((1,), True), ((2,), False), ((3,), True), ((4,), False),
                              ((0, 2, 4), False), ((0, 2, 3), True), ((1, 3), True)):
            self.check(Question(None, ["a"]), 0, FIRST, rooms, wanted)

    def test_as_often_as_it_is_asked(self):
        for rooms, most in (((), 0), ((0, 2, 4), 0), ((1,), 1), ((1, 1), 2), ((1, 3), 2), ((3, 0, 1, 3), 3),
                            ((1,) * 7, 7), ((0, 1, 2, 3, 4, 3, 2, 1, 0), 4)):
            for asked in range(1, 7):
                self.check(Question(None, ["a"] * asked), 0, FIRST, rooms, asked <= most)

    def test_several_marks(self):
        for rooms, wanted in (((1, 2), False), ((1, 1), False), ((1, 2, 2), False), ((1, 3, 2), True),
                              ((2, 1, 1), True), ((0, 3, 3, 4, 2), True), ((2, 2, 1, 0), False)):
            self.check(Question(None, ["a", "b", "a"]), 0, FIRST, rooms, wanted)

    def test_cells(self):
        for state, wanted in ((("off", "shut"), False), (("on", "shut"), True), (("on", "wide"), True)):
            self.check(Question(None, None, [("lamp", "on")]), 0, state, (), wanted)
        for state, wanted in ((("off", "ajar"), True), (("on", "ajar"), False), (("off", "wide"), False)):
            self.check(Question(None, None, [("door", "ajar"), ("lamp", "off")]), 0, state, (), wanted)

    def test_all_at_once(self):
        question = Question("out", ["a", "b"], [("door", "wide")])
        self.check(question, 2, ("on", "wide"), (1, 2), True)
        self.check(question, 1, ("on", "wide"), (1, 2), False)
        self.check(question, 2, ("on", "shut"), (1, 2), False)
        self.check(question, 2, ("on", "wide"), (1, 1), False)

    def test_a_mark_of_both_programs(self):
        game = Game(BOARD, read_program("mark m skip"), read_program("skip mark m"))
        self.assertTrue(met(game, Question("m"), (0, FIRST, (0,))))
        self.assertFalse(met(game, Question(None, ["m"]), (0, FIRST, (0,))))
        self.assertTrue(met(game, Question(None, ["m"]), (1, FIRST, (1,))))
        self.assertFalse(met(game, Question("m"), (1, FIRST, (1,))))


class AskedOfAGame(unittest.TestCase):
    # Each question with what it is refused with; what comes behind would be refused too.
    BAD = [
        (Question("a"), (NoMark, {"name": "a"})),
        (Question("no", ["in"], [("bell", "x")]), (NoMark, {"name": "no"})),
        (Question(None, ["in"]), (NoMark, {"name": "in"})),
        (Question("in", ["a", "out", "in"], [("bell", "x")]), (NoMark, {"name": "out"})),
        (Question("in", ["a"], [("bell", "on")]), (NoCell, {"name": "bell"})),
        (Question(None, None, [("bell", "x"), ("lamp", "x")]), (NoCell, {"name": "bell"})),
        (Question(None, None, [("lamp", "x"), ("bell", "x")]), (NoValue, {"cell": "lamp", "value": "x"})),
        (Question(None, None, [("lamp", "on"), ("door", "on")]), (NoValue, {"cell": "door", "value": "on"})),
        (Question(None, None, [("lamp", "off"), ("on", "lamp")]), (NoCell, {"name": "on"})),
    ]

    def test_met(self):
        for question, wanted in self.BAD:
            for standing in ((0, FIRST, ()), (4, ("on", "wide"), (4, 4))):
                self.assertEqual(refused(lambda: met(GAME, question, standing)), wanted)

    def test_shuts_out_ahead_of_what_is_amiss(self):
        for question, wanted in self.BAD:
            for sheet in ([], [(9, ("off",), (9, 9))], [(0, FIRST, (0,))]):
                self.assertEqual(refused(lambda: shuts_out(GAME, sheet, question)), wanted)

    def test_brings_ahead_of_the_count_and_the_moves(self):
        for question, wanted in self.BAD:
            for many in (-1, 0, 2, 401):
                for moves in ([], [(9, 9)]):
                    self.assertEqual(refused(lambda: brings(GAME, many, moves, question)), wanted)


if __name__ == "__main__":
    unittest.main()
