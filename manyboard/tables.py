"""What can be done in each room of a machine, state by state."""

from manyboard.acts import state_behind


class Table:
    """The steps of a machine at each state of the board.

    Kept once they are told: whoever goes through a game asks for the same ones again and again.
    """

    def __init__(self, board, machine):
        self._board = board
        self._machine = machine
        self._pages = {}

    def steps_at(self, state):
        """Room by room, the steps that can be done at a state: number, room and state behind of each."""
        if state not in self._pages:
            self._pages[state] = tuple([self._steps_from(room, state) for room in range(self._machine.rooms())])
        return self._pages[state]

    def _steps_from(self, room, state):
        found = []
        for number, (act, target) in enumerate(self._machine.steps(room)):
            after = state_behind(self._board, state, act)
            if after is not None:
                found.append((number, target, after))
        return tuple(found)
