"""Games of 300 entries, asked in great numbers (points 21 and 23)."""

import time
import unittest

from manyboard.boards import Board
from manyboard.crowds import entries
from manyboard.games import Game
from manyboard.sheets import amiss
from manyboard.trees import Choose, Program, Skip, Write

A_VALUES = ["v", "w", "x", "y"]
B_VALUES = ["x", "z", "v"]


def part_of(writes):
    """A choice of up to three writes."""
    if len(writes) == 1:
        return Program(writes)
    return Program([Choose(Program(writes[:1]), part_of(writes[1:]))])


def wide_game():
    """Three hundred entries: 25 rooms of the leader by 12 states, each with all rooms of the followers."""
    one = part_of([Write("a", "v"), Write("a", "w"), Write("a", "x")])
    two = part_of([Write("a", "y"), Write("b", "x"), Write("b", "z")])
    three = part_of([Write("b", "v")])
    follower = Program([Choose(Program([Choose(one, two)]), three)])
    leader = Program([Skip() for _ in range(24)])
    return Game(Board([("a", A_VALUES), ("b", B_VALUES)]), leader, follower)


def time_of(call):
    """How long the processor is at a call, at the best of three: other work on the machine does not count."""
    times = []
    for _ in range(3):
        begin = time.process_time()
        call()
        times.append(time.process_time() - begin)
    return min(times)


class WideGames(unittest.TestCase):
    def test_the_entries(self):
        game = wide_game()
        rooms = tuple(range(14))
        self.assertEqual(game.machine(1).rooms(), 14)
        wanted = sorted((lead, (a, b), rooms) for lead in range(25) for a in A_VALUES for b in B_VALUES)
        self.assertEqual(len(wanted), 300)
        self.assertEqual(entries(game), wanted)
        self.assertEqual(entries(game), wanted)

    def test_nothing_is_amiss_in_the_reverse_order(self):
        game = wide_game()
        sheet = entries(game)
        self.assertIsNone(amiss(game, sheet[::-1]))
        self.assertIsNone(amiss(wide_game(), sheet[::-1]))
        # Without the last entry, where b holds z: from the one ahead of it the write of z leads there.
        self.assertEqual(amiss(game, sheet[:-1][::-1]), ("step", 0, 1, 11, 0))

    # Where each step is looked up anew, fifty of these take 1.5 to 1.8 seconds.
    def test_fifty_of_them(self):
        def ask():
            for _ in range(50):
                game = wide_game()
                self.assertIsNone(amiss(game, entries(game)[::-1]))

        self.assertLess(time_of(ask), 0.75)

    def test_fifty_entries_and_fifty_sheets(self):
        games = [wide_game() for _ in range(50)]
        sheet = entries(wide_game())[::-1]
        self.assertLess(time_of(lambda: [entries(game) for game in games]), 0.5)
        games = [wide_game() for _ in range(50)]
        self.assertLess(time_of(lambda: [amiss(game, sheet) for game in games]), 0.25)


if __name__ == "__main__":
    unittest.main()
