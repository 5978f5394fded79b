"""Games (points 2, 12, 14, 15 and 16)."""

import unittest

from manyboard.boards import Board
from manyboard.errors import BadCount, BoardError, NoCell, NoHand, NoStep, NoValue, Shut
from manyboard.games import Game
from manyboard.reading import read_program
from manyboard.rooms import Machine

BOARD = Board([("lamp", ["off", "on"]), ("door", ["shut", "ajar", "wide"])])

# Rooms: 0 wait, 1 mark, 2 choose, 3 write, 4 the end.
LEADER = "wait lamp on mark in choose { write door wide } or { }"
# Rooms: 0 if, 1 write, 2 mark, 3 stop, 4 the end.
FOLLOWER = "if door ajar { write lamp on } else { mark late } stop"


def game_of(leader=LEADER, follower=FOLLOWER):
    return Game(BOARD, read_program(leader), read_program(follower))


def refused(call):
    """What a call is refused with, with its fields, or None."""
    try:
        call()
    except BoardError as error:
        return error.__class__, vars(error)
    return None


class WhatAGameTells(unittest.TestCase):
    def test_machines(self):
        game = game_of()
        for which, text in ((0, LEADER), (1, FOLLOWER)):
            wanted = Machine(BOARD, read_program(text))
            told = game.machine(which)
            self.assertIsInstance(told, Machine)
            self.assertEqual(told.rooms(), wanted.rooms())
            for room in range(wanted.rooms()):
                self.assertEqual(told.steps(room), wanted.steps(room))
                self.assertEqual(told.mark_of(room), wanted.mark_of(room))
        self.assertEqual(game.machine(0).marks(), ["in"])
        self.assertEqual(game.machine(1).marks(), ["late"])

    def test_board(self):
        self.assertTrue(game_of().board() == BOARD)

    def test_by_names(self):
        game = Game(follower=read_program("mark b"), leader=read_program("mark a"), board=BOARD)
        self.assertEqual(game.machine(which=0).marks(), ["a"])
        self.assertEqual(game.machine(which=1).marks(), ["b"])
        standing = game.begin(many=1)
        self.assertEqual(game.moves(standing=standing), [(0, 0), (1, 0)])
        self.assertEqual(game.moved(standing=standing, move=(1, 0)), (0, ("off", "shut"), (1,)))
        self.assertEqual(game.played(many=1, moves=[(0, 0)]), (1, ("off", "shut"), (0,)))
        self.assertEqual(game.stops_at(many=1, moves=[(0, 0), (0, 0)]), 1)

    def test_no_other_thing_is_equal(self):
        game = game_of()
        for thing in (None, 0, "", [], (), BOARD):
            self.assertFalse(game == thing)
            self.assertFalse(game.machine(0) == thing)

    def test_the_refusals_of_the_leader_come_first(self):
        for leader, follower, wanted in (
            ("wait bell a", "wait gong a", (NoCell, {"name": "bell"})),
            ("wait lamp ajar", "wait gong a", (NoValue, {"cell": "lamp", "value": "ajar"})),
            ("skip", "wait gong a", (NoCell, {"name": "gong"})),
            ("loop { wait lamp on }", "loop { write door on }", (NoValue, {"cell": "door", "value": "on"})),
        ):
            with self.subTest(leader + " / " + follower):
                self.assertEqual(refused(lambda: game_of(leader, follower)), wanted)


class Beginning(unittest.TestCase):
    def test_none_one_and_four_hundred(self):
        game = game_of()
        for many in (0, 1, 2, 399, 400):
            room, state, rooms = game.begin(many)
            self.assertEqual((room, state), (0, ("off", "shut")))
            self.assertEqual(rooms, tuple([0] * many))
            self.assertIsInstance(rooms, tuple)
            self.assertIsInstance(state, tuple)

    def test_too_few_and_too_many(self):
        game = game_of()
        for many in (-1, -400, 401, 1000):
            wanted = (BadCount, {"what": "followers", "count": many})
            self.assertEqual(refused(lambda: game.begin(many)), wanted)
            self.assertEqual(refused(lambda: game.played(many, [])), wanted)
            self.assertEqual(refused(lambda: game.stops_at(many, [])), wanted)
            self.assertEqual(refused(lambda: game.played(many, [(-1, 0)])), wanted)
            self.assertEqual(refused(lambda: game.stops_at(many, [(-1, 0)])), wanted)


class Moves(unittest.TestCase):
    def test_only_looks_at_what_the_cell_holds(self):
        game = game_of()
        # The looks of the followers' first room: 0 at ajar, 1 at shut, 2 at wide.
        self.assertEqual(game.moves((0, ("off", "shut"), (0, 0))), [(1, 1), (2, 1)])
        self.assertEqual(game.moves((0, ("off", "ajar"), (0, 0))), [(1, 0), (2, 0)])
        self.assertEqual(game.moves((0, ("off", "wide"), (0,))), [(1, 2)])
        self.assertEqual(game.moves((0, ("on", "shut"), ())), [(0, 0)])
        self.assertEqual(game.moves((0, ("off", "shut"), ())), [])

    def test_goes_and_puts_can_be_done_always(self):
        game = game_of()
        for state in (("off", "shut"), ("on", "wide")):
            self.assertEqual(game.moves((1, state, ())), [(0, 0)])
            self.assertEqual(game.moves((2, state, ())), [(0, 0), (0, 1)])
            self.assertEqual(game.moves((3, state, (1, 2, 3, 4))), [(0, 0), (1, 0), (2, 0)])
            self.assertEqual(game.moves((4, state, (3, 4))), [])

    def test_sorted_by_hand_and_step(self):
        game = game_of("choose { } or { }", "choose { } or { }")
        many = 12
        wanted = [(hand, step) for hand in range(many + 1) for step in (0, 1)]
        told = game.moves(game.begin(many))
        self.assertEqual(told, wanted)
        self.assertEqual(told, sorted(told))

    def test_what_was_told_may_be_changed(self):
        game = game_of()
        standing = game.begin(2)
        told = game.moves(standing)
        self.assertIsInstance(told, list)
        told.clear()
        self.assertEqual(game.moves(standing), [(1, 1), (2, 1)])


class Moved(unittest.TestCase):
    def test_each_kind_of_act(self):
        game = game_of()
        for standing, move, wanted in (
            ((0, ("on", "shut"), (0,)), (0, 0), (1, ("on", "shut"), (0,))),
            ((1, ("on", "shut"), (0,)), (0, 0), (2, ("on", "shut"), (0,))),
            ((2, ("on", "shut"), (0,)), (0, 0), (3, ("on", "shut"), (0,))),
            ((2, ("on", "shut"), (0,)), (0, 1), (4, ("on", "shut"), (0,))),
            ((3, ("on", "shut"), (0,)), (0, 0), (4, ("on", "wide"), (0,))),
            ((3, ("on", "wide"), (0,)), (0, 0), (4, ("on", "wide"), (0,))),
            ((0, ("off", "ajar"), (0, 0, 0)), (1, 0), (0, ("off", "ajar"), (1, 0, 0))),
            ((0, ("off", "shut"), (0, 0, 0)), (2, 1), (0, ("off", "shut"), (0, 2, 0))),
            ((0, ("off", "wide"), (0, 0, 0)), (3, 2), (0, ("off", "wide"), (0, 0, 2))),
            ((4, ("off", "wide"), (4, 1, 3)), (2, 0), (4, ("on", "wide"), (4, 3, 3))),
            ((4, ("off", "wide"), (2, 2)), (2, 0), (4, ("off", "wide"), (2, 3))),
        ):
            with self.subTest(standing=standing, move=move):
                told = game.moved(standing, move)
                self.assertEqual(told, wanted)
                self.assertEqual([part.__class__ for part in told], [int, tuple, tuple])

    def test_every_move_that_is_told_can_be_done_and_no_other(self):
        game = game_of()
        for lead in range(5):
            for state in (("off", "shut"), ("on", "ajar"), ("off", "wide")):
                standing = (lead, state, (0, 1, 2, 3, 4))
                every = [(hand, step) for hand in range(-1, 8) for step in range(-1, 5)]
                done = [move for move in every if refused(lambda: game.moved(standing, move)) is None]
                self.assertEqual(done, game.moves(standing))

    def test_no_such_hand(self):
        game = game_of()
        standing = (0, ("off", "shut"), (0, 0))
        for hand in (-1, -2, -3, 3, 4, 400):
            for step in (-1, 0, 1, 9):
                self.assertEqual(refused(lambda: game.moved(standing, (hand, step))), (NoHand, {"hand": hand}))
        self.assertEqual(refused(lambda: game.moved((0, ("on", "shut"), ()), (1, 0))), (NoHand, {"hand": 1}))

    def test_no_such_step(self):
        game = game_of()
        standing = (0, ("off", "shut"), (0, 3, 4, 1))
        for hand, step in ((0, -1), (0, 1), (0, 2), (1, -1), (1, -2), (1, 3), (2, 0), (2, -1), (3, 0), (4, 1)):
            self.assertEqual(refused(lambda: game.moved(standing, (hand, step))), (NoStep, {"step": step}))

    def test_shut(self):
        game = game_of()
        standing = (0, ("off", "shut"), (0, 0))
        for move, cell, value in (((0, 0), "lamp", "on"), ((1, 0), "door", "ajar"), ((2, 2), "door", "wide")):
            self.assertEqual(refused(lambda: game.moved(standing, move)), (Shut, {"cell": cell, "value": value}))

    def test_what_was_handed_in_stays(self):
        game = game_of()
        standing = (0, ("on", "shut"), (0, 0))
        game.moved(standing, (0, 0))
        game.moved(standing, (2, 1))
        self.assertEqual(standing, (0, ("on", "shut"), (0, 0)))


class Rows(unittest.TestCase):
    # The leader opens the door by its own row; the follower that looked then puts the lamp on.
    GOOD = [(0, 0), (1, 0), (2, 0), (2, 0), (0, 0), (1, 0), (0, 0)]

    def game(self):
        return game_of("write door ajar wait lamp on mark in", "if door ajar { write lamp on } else { mark late }")

    def test_played(self):
        game = self.game()
        first = ("off", "shut")
        self.assertEqual(game.played(0, []), (0, first, ()))
        self.assertEqual(game.played(3, []), (0, first, (0, 0, 0)))
        for many, wanted in (
            (1, (1, ("off", "ajar"), (0, 0))), (2, (1, ("off", "ajar"), (1, 0))), (3, (1, ("off", "ajar"), (1, 1))),
            (4, (1, ("on", "ajar"), (1, 3))), (5, (2, ("on", "ajar"), (1, 3))), (6, (2, ("on", "ajar"), (3, 3))),
            (7, (3, ("on", "ajar"), (3, 3))),
        ):
            with self.subTest(many):
                self.assertEqual(game.played(2, self.GOOD[:many]), wanted)
                self.assertIsNone(game.stops_at(2, self.GOOD[:many]))

    def test_the_bad_move_at_each_place(self):
        game = self.game()
        for move, wanted in (((3, 0), (NoHand, {"hand": 3})), ((-1, 7), (NoHand, {"hand": -1})),
                             ((1, 3), (NoStep, {"step": 3})), ((0, -1), (NoStep, {"step": -1}))):
            for place in range(len(self.GOOD) + 1):
                moves = self.GOOD[:place] + [move] + self.GOOD[place:]
                with self.subTest(move=move, place=place):
                    self.assertEqual(game.stops_at(2, moves), place)
                    self.assertEqual(refused(lambda: game.played(2, moves)), wanted)

    def test_a_look_that_is_shut(self):
        game = self.game()
        for moves, place, cell, value in (
            ([(1, 0)], 0, "door", "ajar"), ([(0, 0), (0, 0)], 1, "lamp", "on"),
            ([(0, 0), (1, 0), (2, 1), (1, 0)], 2, "door", "shut"),
            ([(1, 1), (1, 0), (0, 0), (2, 2), (0, 9)], 3, "door", "wide"),
        ):
            with self.subTest(moves):
                self.assertEqual(game.stops_at(2, moves), place)
                self.assertEqual(refused(lambda: game.played(2, moves)), (Shut, {"cell": cell, "value": value}))

    def test_the_first_of_several_bad_moves(self):
        game = self.game()
        moves = [(0, 0), (1, 9), (9, 0), (0, 0)]
        self.assertEqual(game.stops_at(2, moves), 1)
        self.assertEqual(refused(lambda: game.played(2, moves)), (NoStep, {"step": 9}))

    def test_four_hundred_followers(self):
        game = self.game()
        moves = [(0, 0)] + [(hand, 0) for hand in range(400, 0, -1)]
        self.assertEqual(game.played(400, moves), (1, ("off", "ajar"), (1,) * 400))
        self.assertEqual(game.stops_at(399, moves), 1)

    def test_what_was_handed_in_stays(self):
        game = self.game()
        moves = list(self.GOOD)
        game.played(2, moves)
        game.stops_at(2, moves)
        self.assertEqual(moves, self.GOOD)
        self.assertEqual(game.played(2, moves), game.played(2, moves))


if __name__ == "__main__":
    unittest.main()
