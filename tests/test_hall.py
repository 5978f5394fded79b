"""Halls (points 2, 3, 15, 18, 19, 25, 32, 33, 34 and 35)."""

import random
import unittest

from manyboard.boards import Board
from manyboard.errors import (BadCount, Barred, BoardError, Full, NoBar, NoCell, NoHand, NoMark, NoName, NoStep,
                              NoValue, Shut, Twice, Wide)
from manyboard.games import Game
from manyboard.hall import Hall, told_again
from manyboard.questions import Question
from manyboard.reading import read_program
from manyboard.sheets import brings
from manyboard.ways import may, way

SMALL = Board([("c", ["a", "b"])])
TWO = Board([("c", ["a", "b"]), ("d", ["x", "y"])])
LARGE = Board([("c", ["k", "l", "m", "n"]), ("d", ["k", "l", "m", "n"]), ("e", ["k", "l", "m", "n"])])

# A leader that comes to just 300 entries where the followers leave the board as it is: see test_crowds.
PLACES = [("c", "l"), ("d", "l"), ("e", "l"), ("c", "m"), ("d", "m"), ("e", "m"), ("c", "n")]
THREE_HUNDRED = " ".join("choose { write " + cell + " " + value + " } or { }" for cell, value in PLACES)
THREE_HUNDRED += " skip skip skip wait d k"

A = ("a",)
B = ("b",)


def game_of(leader, follower, board=SMALL):
    return Game(board, read_program(leader), read_program(follower))


def refused(call):
    """What a call is refused with, with its fields, or None."""
    try:
        call()
    except BoardError as error:
        return error.__class__, vars(error)
    return None


# Leader: 0 wait, 1 mark, 2 the end. Followers: 0 wait, 1 write, 2 mark, 3 the end.
GAME = game_of("wait c b mark in", "wait c a write c b mark out")
NEVER = Question("in", None, [("c", "a")])


class Case(unittest.TestCase):
    def stays(self, hall, call, wanted):
        """A call is refused, and everything is as it was."""
        before = hall.standing(), hall.story(), hall.bars()
        self.assertEqual(refused(call), wanted)
        self.assertEqual((hall.standing(), hall.story(), hall.bars()), before)

    def kinds(self, standing):
        room, state, hands = standing
        self.assertEqual((standing.__class__, room.__class__, state.__class__, hands.__class__),
                         (tuple, int, tuple, tuple))
        for pair in hands:
            self.assertIsInstance(pair, tuple)


class Coming(Case):
    def test_at_first(self):
        hall = Hall(GAME)
        self.assertIs(hall.game(), GAME)
        self.assertEqual(hall.standing(), (0, A, ()))
        self.assertEqual(hall.story(), [])
        self.assertEqual(hall.bars(), [])
        self.assertEqual(Hall(game=game_of("", "", TWO)).standing(), (0, ("a", "x"), ()))

    def test_join(self):
        hall = Hall(GAME)
        for number in range(1, 13):
            self.assertEqual(hall.join(), number)
            self.assertEqual(hall.standing(), (0, A, tuple((hand, 0) for hand in range(1, number + 1))))
            self.kinds(hall.standing())
        self.assertEqual(hall.story(), [("join",)] * 12)

    def test_leave(self):
        hall = Hall(GAME)
        for _ in range(4):
            hall.join()
        self.assertIsNone(hall.leave(2))
        self.assertEqual(hall.standing(), (0, A, ((1, 0), (3, 0), (4, 0))))
        hall.leave(hand=4)
        hall.leave(1)
        self.assertEqual(hall.standing(), (0, A, ((3, 0),)))
        self.assertEqual(hall.story(), [("join",)] * 4 + [("leave", 2), ("leave", 4), ("leave", 1)])

    def test_a_number_is_never_given_again(self):
        hall = Hall(GAME)
        given = []
        for _ in range(100):
            given.append(hall.join())
            hall.leave(given[-1])
        self.assertEqual(given, list(range(1, 101)))
        self.assertEqual(hall.standing(), (0, A, ()))
        hall.join()
        hall.join()
        hall.leave(102)
        self.assertEqual(hall.join(), 103)

    def test_leave_of_those_who_are_not_there(self):
        hall = Hall(GAME)
        for _ in range(3):
            hall.join()
        hall.leave(2)
        for hand in (0, -1, -3, 2, 4, 400):
            self.stays(hall, lambda: hall.leave(hand), (NoHand, {"hand": hand}))

    def test_sixty_and_no_more(self):
        hall = Hall(GAME)
        for number in range(1, 61):
            self.assertEqual(hall.join(), number)
        self.assertEqual(len(hall.standing()[2]), 60)
        self.stays(hall, hall.join, (Full, {}))
        self.stays(hall, hall.join, (Full, {}))
        hall.leave(17)
        # The refused ones were given no number.
        self.assertEqual(hall.join(), 61)
        self.stays(hall, hall.join, (Full, {}))
        self.assertEqual([hand for hand, _ in hall.standing()[2]], [*range(1, 17), *range(18, 62)])


class Moving(Case):
    def test_the_leader_and_followers(self):
        hall = Hall(GAME)
        for _ in range(3):
            hall.join()
        hall.leave(1)
        self.assertIsNone(hall.move(3, 0))
        self.assertEqual(hall.standing(), (0, A, ((2, 0), (3, 1))))
        hall.move(step=0, hand=3)
        self.assertEqual(hall.standing(), (0, B, ((2, 0), (3, 2))))
        hall.move(0, 0)
        self.assertEqual(hall.standing(), (1, B, ((2, 0), (3, 2))))
        self.kinds(hall.standing())
        self.assertEqual(hall.story(), [("join",)] * 3 + [("leave", 1), ("move", 3, 0), ("move", 3, 0), ("move", 0, 0)])

    def test_who_comes_late_is_in_room_nought(self):
        hall = Hall(GAME)
        hall.join()
        hall.move(1, 0)
        hall.join()
        hall.move(1, 0)
        self.assertEqual(hall.join(), 3)
        self.assertEqual(hall.standing(), (0, B, ((1, 2), (2, 0), (3, 0))))
        hall.leave(1)
        self.assertEqual(hall.standing(), (0, B, ((2, 0), (3, 0))))

    def test_no_such_hand(self):
        hall = Hall(GAME)
        for _ in range(3):
            hall.join()
        hall.leave(2)
        for hand in (-1, -2, 2, 4, 61):
            for step in (0, 9):
                self.stays(hall, lambda: hall.move(hand, step), (NoHand, {"hand": hand}))

    def test_no_such_step(self):
        hall = Hall(game_of("skip", "choose { } or { }"))
        hall.join()
        for step in (-1, 1, 2, 100):
            self.stays(hall, lambda: hall.move(0, step), (NoStep, {"step": step}))
        for step in (-1, 2, 3):
            self.stays(hall, lambda: hall.move(1, step), (NoStep, {"step": step}))
        hall.move(1, 1)
        hall.move(0, 0)
        self.stays(hall, lambda: hall.move(1, 0), (NoStep, {"step": 0}))
        self.stays(hall, lambda: hall.move(0, 0), (NoStep, {"step": 0}))

    def test_shut(self):
        hall = Hall(game_of("wait c b", "if c b { } else { }"))
        hall.join()
        self.stays(hall, lambda: hall.move(0, 0), (Shut, {"cell": "c", "value": "b"}))
        self.stays(hall, lambda: hall.move(1, 0), (Shut, {"cell": "c", "value": "b"}))
        hall.move(1, 1)

    def test_the_stories_are_the_askers_own(self):
        hall = Hall(GAME)
        hall.join()
        hall.story().append(("join",))
        hall.bars().append("x")
        self.assertEqual((hall.story(), hall.bars()), ([("join",)], []))

    def test_two_halls_of_one_game_know_nothing_of_one_another(self):
        one, other = Hall(GAME), Hall(GAME)
        one.join()
        one.move(1, 0)
        one.bar("x", NEVER)
        self.assertEqual((other.standing(), other.story(), other.bars()), ((0, A, ()), [], []))
        self.assertEqual(other.join(), 1)
        self.assertEqual(other.standing(), (0, A, ((1, 0),)))
        self.assertFalse(one == other)
        for thing in (None, 0, "", [], ()):
            self.assertFalse(one == thing)


class Meets(Case):
    def test_of_those_who_are_there(self):
        hall = Hall(GAME)
        for _ in range(2):
            hall.join()
        one, two = Question(None, ["out"]), Question(None, ["out", "out"])
        self.assertIs(hall.meets(Question()), True)
        self.assertIs(hall.meets(one), False)
        hall.move(1, 0)
        hall.move(2, 0)
        hall.move(2, 0)
        self.assertIs(hall.meets(one), True)
        self.assertIs(hall.meets(question=two), False)
        hall.move(1, 0)
        self.assertIs(hall.meets(two), True)
        self.assertIs(hall.meets(Question("in", ["out", "out"], [("c", "b")])), False)
        hall.move(0, 0)
        self.assertIs(hall.meets(Question("in", ["out", "out"], [("c", "b")])), True)
        self.assertIs(hall.meets(Question("in", None, [("c", "a")])), False)
        hall.leave(1)
        self.assertIs(hall.meets(two), False)
        self.assertIs(hall.meets(one), True)

    def test_refused(self):
        hall = Hall(GAME)
        for question, wanted in (
            (Question("out", ["in"], [("f", "a")]), (NoMark, {"name": "out"})),
            (Question("in", ["out", "in"], [("f", "a")]), (NoMark, {"name": "in"})),
            (Question("in", ["out"], [("f", "a"), ("c", "z")]), (NoCell, {"name": "f"})),
            (Question("in", ["out"], [("c", "z"), ("f", "a")]), (NoValue, {"cell": "c", "value": "z"})),
        ):
            self.stays(hall, lambda: hall.meets(question), wanted)


class Bars(Case):
    def test_put_in_and_lifted(self):
        hall = Hall(GAME)
        self.assertIsNone(hall.bar("late", NEVER))
        hall.bar(question=Question(None, ["out"], [("c", "a")]), name="early")
        self.assertEqual(hall.bars(), ["early", "late"])
        self.assertIsNone(hall.lift("late"))
        self.assertEqual(hall.bars(), ["early"])
        hall.bar("late", Question("in", ["out"], [("c", "a")]))
        hall.lift(name="early")
        self.assertEqual(hall.bars(), ["late"])
        # They are no deeds.
        self.assertEqual(hall.story(), [])

    def test_no_name_and_twice(self):
        hall = Hall(GAME)
        hall.bar("x", NEVER)
        wrong = Question("out")
        for name in ("", "9", "A", "a b", "abcdefghijk"):
            self.stays(hall, lambda: hall.bar(name, wrong), (NoName, {"name": name}))
        for question in (NEVER, wrong, Question(None, ["out"], [("c", "a")]), Question()):
            self.stays(hall, lambda: hall.bar("x", question), (Twice, {"name": "x"}))
        hall.lift("x")
        hall.bar("x", NEVER)

    def test_the_questions_refusals_ahead_of_the_fifth_bar(self):
        for many in (0, 4):
            hall = Hall(GAME)
            for number in range(many):
                hall.bar("n" + str(number), NEVER)
            for question, wanted in (
                (Question("out", ["in"], [("f", "a")]), (NoMark, {"name": "out"})),
                (Question("in", ["out", "in"], [("f", "a")]), (NoMark, {"name": "in"})),
                (Question("in", ["out"], [("f", "a"), ("c", "z")]), (NoCell, {"name": "f"})),
                (Question(None, None, [("c", "z"), ("f", "a")]), (NoValue, {"cell": "c", "value": "z"})),
            ):
                self.stays(hall, lambda: hall.bar("x", question), wanted)

    def test_four_and_no_more(self):
        hall = Hall(GAME)
        for name in ("d", "b", "c", "a"):
            hall.bar(name, NEVER)
        self.assertEqual(hall.bars(), ["a", "b", "c", "d"])
        five = (BadCount, {"what": "bars", "count": 5})
        # Ahead of Barred, and behind NoName and Twice.
        for question in (NEVER, Question(), Question("in")):
            self.stays(hall, lambda: hall.bar("e", question), five)
        self.stays(hall, lambda: hall.bar("a", NEVER), (Twice, {"name": "a"}))
        self.stays(hall, lambda: hall.bar("E", NEVER), (NoName, {"name": "E"}))
        hall.lift("b")
        hall.bar("e", NEVER)
        self.stays(hall, lambda: hall.bar("b", NEVER), five)
        self.assertEqual(hall.bars(), ["a", "c", "d", "e"])

    def test_wide(self):
        wide = (Wide, {"count": 300})
        hall = Hall(game_of("skip " + THREE_HUNDRED, "mark m", LARGE))
        for question in (Question(), Question(None, ["m"]), Question(None, None, [("d", "n")])):
            self.stays(hall, lambda: hall.bar("x", question), wide)
        self.stays(hall, lambda: hall.bar("x", Question("m")), (NoMark, {"name": "m"}))
        hall = Hall(game_of(THREE_HUNDRED, "mark m", LARGE))
        for name in "abcd":
            hall.bar(name, Question(None, None, [("d", "n")]))
        self.stays(hall, lambda: hall.bar("x", Question()), (BadCount, {"what": "bars", "count": 5}))

    def test_barred(self):
        hall = Hall(GAME)
        for question in (Question(), Question("in"), Question("in", ["out"] * 6, [("c", "b")]),
                         Question(None, None, [("c", "b")])):
            many, deeds = way(GAME, question)
            self.stays(hall, lambda: hall.bar("x", question), (Barred, {"many": many, "deeds": deeds}))
            self.assertTrue(brings(GAME, many, deeds, question))

    def test_no_bar(self):
        hall = Hall(GAME)
        hall.bar("x", NEVER)
        for name in ("y", "", "9", "X", "xx"):
            self.stays(hall, lambda: hall.lift(name), (NoBar, {"name": name}))
        hall.lift("x")
        self.stays(hall, lambda: hall.lift("x"), (NoBar, {"name": "x"}))

    def test_judged_from_the_beginning(self):
        hall = Hall(GAME)
        early = Question(None, None, [("c", "a")])
        hall.join()
        for _ in range(3):
            hall.move(1, 0)
        hall.move(0, 0)
        hall.move(0, 0)
        self.assertEqual(hall.standing(), (2, B, ((1, 3),)))
        # From here on none of these is ever met, but from the beginning they may be.
        for question in (early, Question("in")):
            many, deeds = way(GAME, question)
            self.stays(hall, lambda: hall.bar("x", question), (Barred, {"many": many, "deeds": deeds}))
        hall.bar("x", NEVER)

    def test_a_bar_that_stands_is_never_met(self):
        chance = random.Random(34)
        game = game_of("loop { wait c b mark in write c a wait d y mark out write d x }",
                       "choose { wait d x write c b mark m } or { wait c a write d y mark n }", TWO)
        asked = [Question(lead, follows, [("c", c), ("d", d)]) for lead in (None, "in", "out")
                 for follows in ([], ["m"], ["n"], ["m", "n"]) for c in "ab" for d in "xy"]
        never = [question for question in asked if not may(game, question)]
        self.assertGreater(len(never), 4)
        hall = Hall(game)
        for number, question in enumerate(never[-4:]):
            hall.bar("n" + str(number), question)
        hands = []
        for _ in range(600):
            if len(hands) < 40 and chance.random() < 0.3:
                hands.append(hall.join())
            elif hands and chance.random() < 0.2:
                hall.leave(hands.pop(chance.randrange(len(hands))))
            else:
                refused(lambda: hall.move(chance.choice([0, *hands]), chance.randrange(2)))
            self.assertFalse(any(hall.meets(question) for question in never))


class ToldAgain(Case):
    def test_a_story(self):
        hall = Hall(GAME)
        hall.join()
        hall.join()
        hall.move(1, 0)
        hall.move(1, 0)
        hall.leave(1)
        hall.join()
        hall.move(0, 0)
        hall.bar("x", NEVER)
        story = hall.story()
        again = told_again(GAME, story)
        self.assertIsInstance(again, Hall)
        self.assertIs(again.game(), GAME)
        self.assertEqual(again.standing(), hall.standing())
        self.assertEqual(again.standing(), (1, B, ((2, 0), (3, 0))))
        self.assertEqual(again.story(), hall.story())
        self.assertEqual(again.bars(), [])
        self.assertEqual(again.join(), 4)
        # What is handed in stays, and what is changed in it later changes nothing.
        self.assertEqual(story, hall.story())
        story.clear()
        self.assertEqual(len(again.story()), len(hall.story()) + 1)

    def test_of_nothing(self):
        again = told_again(story=[], game=GAME)
        self.assertEqual((again.standing(), again.story()), ((0, A, ()), []))

    def test_refused_as_the_first_deed_that_is_refused(self):
        for story, wanted in (
            ([("leave", 1), ("move", 1, 0)], (NoHand, {"hand": 1})),
            ([("join",), ("leave", 0)], (NoHand, {"hand": 0})),
            ([("join",), ("leave", 1), ("leave", 1)], (NoHand, {"hand": 1})),
            ([("join",), ("move", 2, 0), ("move", 1, 7)], (NoHand, {"hand": 2})),
            ([("join",), ("move", 1, 7), ("move", 2, 0)], (NoStep, {"step": 7})),
            ([("move", 0, 0), ("join",)], (Shut, {"cell": "c", "value": "b"})),
            ([("join",)] * 61 + [("leave", 99)], (Full, {})),
        ):
            kept = list(story)
            self.assertEqual(refused(lambda: told_again(GAME, story)), wanted)
            self.assertEqual(story, kept)

    def test_long_stories(self):
        chance = random.Random(35)
        game = game_of("loop { if c a { write c b } else { write c a } }",
                       "loop { choose { wait c a write d y } or { wait c b write d x } }", TWO)
        hall = Hall(game)
        hands = []
        for _ in range(500):
            if len(hands) < 20 and chance.random() < 0.2:
                hands.append(hall.join())
            elif hands and chance.random() < 0.1:
                hall.leave(hands.pop(0))
            else:
                refused(lambda: hall.move(chance.choice([0, *hands]), chance.randrange(2)))
        again = told_again(game, hall.story())
        self.assertEqual((again.standing(), again.story()), (hall.standing(), hall.story()))


if __name__ == "__main__":
    unittest.main()
