"""Games: a board, a leader and followers, move by move."""

from manyboard.acts import state_behind
from manyboard.checks import need_count
from manyboard.errors import NoHand, NoStep, Shut
from manyboard.rooms import Machine
from manyboard.tables import Table

MOST_FOLLOWERS = 400


class Game:
    """A board with the program of the leader and the one of all followers."""

    def __init__(self, board, leader, follower):
        self._machines = (Machine(board, leader), Machine(board, follower))
        self._tables = (Table(board, self._machines[0]), Table(board, self._machines[1]))
        self._programs = (leader, follower)
        self._board = board

    def machine(self, which):
        """The leader's machine for 0, the followers' for 1."""
        return self._machines[which]

    def table(self, which):
        """What can be done in the leader's rooms for 0, in the followers' for 1."""
        return self._tables[which]

    def program(self, which):
        """The leader's program for 0, the followers' for 1."""
        return self._programs[which]

    def board(self):
        """The board."""
        return self._board

    def begin(self, many):
        """The standing at first, of so many followers."""
        need_count("followers", many, 0, MOST_FOLLOWERS)
        return (0, self._board.first(), (0,) * many)

    def moves(self, standing):
        """All moves that can be done, sorted."""
        lead, state, rooms = standing
        found = [(0, step) for step, _, _ in self.table(0).steps_at(state)[lead]]
        steps = self.table(1).steps_at(state)
        for place, room in enumerate(rooms):
            found.extend([(place + 1, step) for step, _, _ in steps[room]])
        return found

    def moved(self, standing, move):
        """The standing behind a move."""
        lead, state, rooms = standing
        hand, step = move
        if not 0 <= hand <= len(rooms):
            raise NoHand(hand)
        steps = self.machine(0).steps(lead) if hand == 0 else self.machine(1).steps(rooms[hand - 1])
        if not 0 <= step < len(steps):
            raise NoStep(step)
        act, target = steps[step]
        after = state_behind(self._board, state, act)
        if after is None:
            raise Shut(act[1], act[2])
        if hand == 0:
            return (target, after, rooms)
        return (lead, after, rooms[:hand - 1] + (target,) + rooms[hand:])

    def played(self, many, moves):
        """The standing behind a list of moves from the beginning on."""
        standing = self.begin(many)
        for move in moves:
            standing = self.moved(standing, move)
        return standing

    def stops_at(self, many, moves):
        """The place of the first move that is refused, or None."""
        standing = self.begin(many)
        for place, move in enumerate(moves):
            try:
                standing = self.moved(standing, move)
            except (NoHand, NoStep, Shut):
                return place
        return None
