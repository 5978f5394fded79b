"""The crowd: gathered rooms and entries (points 2, 20, 21 and 22)."""

import unittest

from manyboard.boards import Board
from manyboard.crowds import entries, gathered
from manyboard.errors import Wide
from manyboard.games import Game
from manyboard.reading import read_program

SMALL = Board([("c", ["a", "b"])])
LARGE = Board([("c", ["k", "l", "m", "n"]), ("d", ["k", "l", "m", "n"]), ("e", ["k", "l", "m", "n"])])

A = ("a",)
B = ("b",)

# Each widens the states by one more value of a cell; where the leader comes to it at so many
# states, it adds twice as many entries.
PLACES = [("c", "l"), ("d", "l"), ("e", "l"), ("c", "m"), ("d", "m"), ("e", "m"), ("c", "n")]


def game_of(leader, follower, board=SMALL):
    return Game(board, read_program(leader), read_program(follower))


def wide_count(game):
    """The count for which the entries of a game are refused, or None where they are told."""
    try:
        entries(game)
    except Wide as error:
        return error.count
    return None


class Gathered(unittest.TestCase):
    def check(self, follower, state, rooms, wanted, board=SMALL):
        with self.subTest(follower, state=state, rooms=rooms):
            game = game_of("stop", follower, board)
            for told in (gathered(game, state, rooms), gathered(game, state, tuple(rooms)),
                         gathered(rooms=rooms, state=state, game=game)):
                self.assertEqual(told, wanted)
                self.assertIsInstance(told, tuple)

    def test_nothing_of_nothing(self):
        self.check("skip skip", A, [], ())

    def test_along_looks_that_can_be_done(self):
        self.check("wait c a wait c b wait c a", A, [0], (0, 1))
        self.check("wait c a wait c b wait c a", A, [1], (1,))
        self.check("wait c a wait c b wait c a", A, [2], (2, 3))
        self.check("wait c a wait c b wait c a", B, [0], (0,))
        self.check("wait c a wait c b wait c a", B, [0, 1], (0, 1, 2))
        # 0 if, 1 skip, 2 stop, 3 mark, 4 the end
        self.check("if c a { skip stop } else { mark m }", A, [0], (0, 1, 2))
        self.check("if c a { skip stop } else { mark m }", B, [0], (0, 3, 4))

    def test_along_goes(self):
        self.check("skip mark m skip", A, [0], (0, 1, 2, 3))
        self.check("skip mark m skip", A, [2], (2, 3))
        self.check("skip stop skip", A, [0], (0, 1))
        self.check("choose { skip stop } or { stop }", A, [0], (0, 1, 2, 3))

    def test_along_puts_of_what_stands_and_no_others(self):
        self.check("write c a write c b skip", A, [0], (0, 1))
        self.check("write c a write c b skip", A, [1], (1,))
        self.check("write c a write c b skip", B, [0], (0,))
        self.check("write c a write c b skip", B, [1], (1, 2, 3))

    def test_round_and_round(self):
        # 0 loop, 1 skip, 2 while, 3 skip, 4 skip, 5 the end
        self.check("loop { skip while c a { skip } } skip", A, [0], (0, 1, 2, 3))
        self.check("loop { skip while c a { skip } } skip", A, [3], (2, 3))
        self.check("loop { skip while c a { skip } } skip", B, [2], (0, 1, 2))
        self.check("loop { skip while c a { skip } } skip", B, [3], (0, 1, 2, 3))
        self.check("loop { skip while c a { skip } } skip", B, [4, 3], (0, 1, 2, 3, 4, 5))
        self.check("loop { }", A, [0], (0,))
        self.check("loop { }", A, [1], (1,))

    def test_rooms_told_twice_and_in_any_order(self):
        self.check("stop stop stop stop", A, [3, 0, 3, 1, 0], (0, 1, 3))
        self.check("skip stop skip stop", A, [2, 0, 2, 0, 0], (0, 1, 2, 3))
        self.check("skip stop skip stop", A, [3, 1], (1, 3))

    def test_more_cells(self):
        follower = "write d l wait c k wait e m skip"
        self.check(follower, ("k", "l", "m"), [0], (0, 1, 2, 3, 4), LARGE)
        self.check(follower, ("k", "l", "n"), [0], (0, 1, 2), LARGE)
        self.check(follower, ("l", "l", "m"), [0], (0, 1), LARGE)
        self.check(follower, ("l", "k", "k"), [0], (0,), LARGE)

    def test_the_leaders_machine_is_not_asked(self):
        game = game_of("skip skip skip", "stop stop")
        self.assertEqual(gathered(game, A, [0]), (0,))

    def test_what_was_handed_in_stays(self):
        game = game_of("stop", "skip skip")
        rooms = [1, 0, 1]
        gathered(game, A, rooms)
        self.assertEqual(rooms, [1, 0, 1])


class Entries(unittest.TestCase):
    def check(self, leader, follower, wanted):
        with self.subTest(leader + " / " + follower):
            told = entries(game_of(leader, follower))
            self.assertEqual(told, wanted)
            self.assertIsInstance(told, list)
            for room, state, rooms in told:
                self.assertEqual((room.__class__, state.__class__, rooms.__class__), (int, tuple, tuple))

    def test_nobody_does_anything(self):
        self.check("", "", [(0, A, (0,))])
        self.check("stop skip", "stop skip", [(0, A, (0,))])
        self.check("wait c b", "wait c b", [(0, A, (0,))])

    def test_the_leader_alone(self):
        self.check("skip skip", "", [(0, A, (0,)), (1, A, (0,)), (2, A, (0,))])
        self.check("write c b write c a", "stop", [(0, A, (0,)), (1, B, (0,)), (2, A, (0,))])
        self.check("write c a", "stop", [(0, A, (0,)), (1, A, (0,))])
        self.check("loop { choose { write c a } or { write c b } }", "", [
            (room, state, (0,)) for room in range(4) for state in (A, B)])

    def test_followers_alone(self):
        self.check("", "skip", [(0, A, (0, 1))])
        self.check("", "write c b", [(0, A, (0,)), (0, B, (0, 1))])
        self.check("", "write c b write c a", [
            (0, A, (0,)), (0, A, (0, 1, 2)), (0, B, (0, 1)), (0, B, (0, 1, 2))])

    def test_a_follower_opens_to_the_leader(self):
        self.check("wait c b mark in", "wait c a write c b mark out", [
            (0, A, (0, 1)), (0, B, (0, 1, 2, 3)), (1, B, (0, 1, 2, 3)), (2, B, (0, 1, 2, 3))])

    def test_the_leader_opens_to_followers(self):
        self.check("write c b write c a", "wait c b mark m wait c a", [
            (0, A, (0,)), (1, B, (0, 1, 2)), (2, A, (0, 1, 2, 3))])

    def test_what_one_follower_undoes_another_one_can_do_again(self):
        # 0 choose, 1 write, 2 stop, 3 wait, 4 mark, 5 write, 6 the end
        self.check("stop", "choose { write c b stop } or { wait c b mark m write c a }", [
            (0, A, (0, 1, 2, 3, 4, 5, 6)), (0, A, (0, 1, 3)),
            (0, B, (0, 1, 2, 3, 4, 5)), (0, B, (0, 1, 2, 3, 4, 5, 6))])

    def test_sorted_each_once_and_a_new_list(self):
        game = game_of("loop { choose { write c a } or { write c b } }", "loop { wait c a wait c b write c a }")
        told = entries(game)
        self.assertEqual(told, sorted(set(told)))
        kept = list(told)
        told.clear()
        self.assertEqual(entries(game=game), kept)


def widening(places, tail):
    """A leader that may put each of these values or leave it, and then goes on with a tail."""
    text = " ".join("choose { write " + cell + " " + value + " } or { }" for cell, value in places)
    return text + " " + tail


class HowManyEntries(unittest.TestCase):
    # The leader comes to the seven choices at 1, 2, 4, 8, 12, 18 and 27 states, behind them there are
    # 36, 4 * 3 * 3 of them, and 12 behind a wait for a value of d. So there are
    # 2 * (1 + 2 + 4 + 8 + 12 + 18 + 27) + 4 * 36 + 12 = 300 entries.
    TEXT = widening(PLACES, "skip skip skip wait d k")

    def test_three_hundred_are_let_by(self):
        told = entries(game_of(self.TEXT, "", LARGE))
        self.assertEqual(len(told), 300)
        self.assertEqual(told, sorted(set(told)))

    def test_three_hundred_and_one_are_refused(self):
        self.assertEqual(wide_count(game_of("skip " + self.TEXT, "", LARGE)), 300)

    def test_just_as_many_with_a_crowd_that_goes_about(self):
        follower = "skip loop { skip } skip"
        self.assertEqual(len(entries(game_of(self.TEXT, follower, LARGE))), 300)
        self.assertEqual(wide_count(game_of("skip " + self.TEXT, follower, LARGE)), 300)

    def test_those_that_only_followers_bring_count_too(self):
        # The same choices with 36 states in each of four rooms behind them make 288 entries. There
        # alone c may hold n, and where it does a follower's put of n into d brings one state more
        # for each of the 3 values that e may hold: 4 * 3 entries more.
        leader = widening(PLACES, "skip skip skip stop")
        self.assertEqual(len(entries(game_of(leader, "", LARGE))), 288)
        follower = "wait c n write d n"
        self.assertEqual(len(entries(game_of(leader, follower, LARGE))), 300)
        self.assertEqual(wide_count(game_of("skip " + leader, follower, LARGE)), 300)

    def test_far_too_many(self):
        writes = " ".join("write " + cell + " " + value for value in "lkmn" for cell in "cde")
        self.assertEqual(wide_count(game_of("loop { " + writes + " }", "loop { " + writes + " }", LARGE)), 300)

    def test_refused_twice_alike(self):
        game = game_of("skip " + self.TEXT, "", LARGE)
        self.assertEqual((wide_count(game), wide_count(game)), (300, 300))


# Two in each of its seven rooms take so many followers that going through them all takes long.
LONG = ("stop", "choose { write c b stop } or { wait c b mark m write c a }")

GAMES = [
    LONG,
    ("wait c b mark in", "wait c a write c b mark out"),
    ("write c b write c a", "wait c b mark m wait c a"),
    ("", "write c b write c a"),
    ("loop { if c a { write c b } else { } }", "wait c b write c a wait c b"),
    ("while c a { } write c a skip", "wait c a choose { write c b } or { stop }"),
    ("wait c b wait c a mark in", "while c a { write c b write c a stop }"),
]


def standings_of(game, many):
    """All standings that so many followers can come to, each with its rooms sorted."""
    first = game.begin(many)
    found = {first}
    waiting = [first]
    while waiting:
        standing = waiting.pop()
        for move in game.moves(standing):
            room, state, rooms = game.moved(standing, move)
            behind = (room, state, tuple(sorted(rooms)))
            if behind not in found:
                found.add(behind)
                waiting.append(behind)
    return found


class JustRight(unittest.TestCase):
    def test_each_standing_is_in_an_entry(self):
        for texts in GAMES:
            game = game_of(*texts)
            told = entries(game)
            for many in range(5):
                for room, state, rooms in standings_of(game, many):
                    with self.subTest(texts, standing=(room, state, rooms)):
                        self.assertTrue(any((lead, held) == (room, state) and set(rooms) <= set(crowd)
                                            for lead, held, crowd in told))

    def entries_without(self, game, least, most):
        """The entries for which up to so many followers never come to that many in each room."""
        missed = set(entries(game))
        for many in range(most + 1):
            if missed:
                for room, state, rooms in standings_of(game, many):
                    missed = {entry for entry in missed if entry[:2] != (room, state)
                              or any(rooms.count(at) < least for at in entry[2])}
        return missed

    def test_each_entry_is_in_a_standing_of_enough_followers(self):
        for texts in GAMES:
            with self.subTest(texts):
                self.assertEqual(self.entries_without(game_of(*texts), 1, 8), set())

    def test_and_in_one_with_two_in_each_room(self):
        for texts in GAMES:
            if texts != LONG:
                with self.subTest(texts):
                    self.assertEqual(self.entries_without(game_of(*texts), 2, 10), set())


if __name__ == "__main__":
    unittest.main()
