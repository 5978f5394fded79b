"""Whether one program of followers can stand in another one's place."""

from manyboard.crowds import Crowd, bits_of, rooms_of
from manyboard.rooms import Machine
from manyboard.tables import Table


def like(board, one, other):
    """The pairs of rooms of which the second one can do whatever the first one can, sorted."""
    machine = Machine(board, one)
    answers = Answers(board, Machine(board, other))
    claims = claims_of(board, machine, answers)
    kept = kept_rooms(claims, answers)
    return [(room, answer) for room in range(machine.rooms()) for answer in rooms_of(kept[room])]


def stands_in(board, one, other):
    """Whether one program can stand in another one's place."""
    return (0, 0) in like(board, one, other)


class Answers:
    """What the rooms of a machine can come to from one state to another; rooms are told as bits.

    Many steps are answered alike at many states, so each row of answers has a number of its own and
    is held against the rooms that will do only once.
    """

    def __init__(self, board, machine):
        self._table = Table(board, machine)
        self._crowd = Crowd(self._table)
        self._many = machine.rooms()
        self._numbers = {}
        self._rows = []
        self._told = {}

    def all_rooms(self):
        """All rooms of the machine."""
        return bits_of(list(range(self._many)))

    def number_of(self, state, after):
        """The number of the row that tells, room by room, where one can come to from state to state."""
        row = tuple([self._come_to(room, state, after) for room in range(self._many)])
        if row not in self._numbers:
            self._numbers[row] = len(self._rows)
            self._rows.append(row)
        return self._numbers[row]

    def _come_to(self, room, state, after):
        still = self._crowd.closed(state, bits_of([room]))
        if state == after:
            return still
        steps = self._table.steps_at(state)
        behind = [target for at in rooms_of(still) for _, target, there in steps[at] if there == after]
        return self._crowd.closed(after, bits_of(behind))

    def rooms_that(self, number, wanted):
        """The rooms which by this row can come to one that is wanted."""
        key = (number, wanted)
        if key not in self._told:
            row = self._rows[number]
            self._told[key] = bits_of([room for room in range(self._many) if (row[room] & wanted) != 0])
        return self._told[key]


def states_of(board):
    """All states of a board."""
    states = [()]
    for cell in board.cells():
        states = [state + (value,) for state in states for value in board.values_of(cell)]
    return states


def claims_of(board, machine, answers):
    """Room by room what its steps claim: pairs of the room behind a step and the row that answers it."""
    table = Table(board, machine)
    claims = [{} for _ in range(machine.rooms())]
    numbers = {}
    for state in states_of(board):
        for room, steps in enumerate(table.steps_at(state)):
            for _, target, after in steps:
                if (state, after) not in numbers:
                    numbers[(state, after)] = answers.number_of(state, after)
                claims[room][(target, numbers[(state, after)])] = True
    return claims


def kept_rooms(claims, answers):
    """Room by room those that answer all of its claims, in the greatest relation that keeps itself."""
    kept = [answers.all_rooms() for _ in claims]
    changed = True
    while changed:
        changed = False
        # From the last room on: what a room can answer hangs most often on the rooms behind it.
        for room in range(len(claims) - 1, -1, -1):
            left = kept[room]
            for target, number in claims[room]:
                left = left & answers.rooms_that(number, kept[target])
            changed = changed or left != kept[room]
            kept[room] = left
    return kept
