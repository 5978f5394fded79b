"""Machines: programs led over to numbered rooms."""

from manyboard.acts import branches, comes_again
from manyboard.errors import NoRoom
from manyboard.trees import Mark, many_in


class Machine:
    """A program as rooms, one for each place of a statement, and the end behind them."""

    def __init__(self, board, program):
        end = many_in(program.row)
        # Each room is a pair of the tuple of its steps and of its mark, or None.
        self._rooms = tuple(rooms_of_row(board, program.row, 0, end) + [((), None)])

    def rooms(self):
        """How many rooms there are."""
        return len(self._rooms)

    def steps(self, room):
        """The steps from a room: each act with the room to which it leads."""
        steps, _ = self._at(room)
        return list(steps)

    def mark_of(self, room):
        """The name of the mark that stands in a room, or None."""
        _, mark = self._at(room)
        return mark

    def marks(self):
        """The names of all marks, sorted, each once."""
        return sorted({mark for _, mark in self._rooms if mark is not None})

    def _at(self, room):
        # A number below nought would be counted from the end.
        if not 0 <= room < len(self._rooms):
            raise NoRoom(room)
        return self._rooms[room]


def rooms_of_row(board, row, room, behind):
    """The rooms of a row whose first one has this number, all that stand within the row included."""
    found = []
    for place, statement in enumerate(row):
        many = many_in([statement])
        last = place == len(row) - 1
        found.extend(rooms_of_statement(board, statement, room, behind if last else room + many))
        room += many
    return found


def rooms_of_statement(board, statement, room, behind):
    """The room of a statement, then those of the programs within it."""
    # Ahead of the programs within: what the board does not have is refused in the order of the text.
    ways = branches(board, statement)
    back = room if comes_again(statement) else behind
    begins = []
    inner = []
    for program in statement.within():
        at = room + 1 + len(inner)
        begins.append(at if program.row else back)
        inner.extend(rooms_of_row(board, program.row, at, back))
    steps = tuple([(act, behind if where is None else begins[where]) for act, where in ways])
    mark = statement.name if isinstance(statement, Mark) else None
    return [(steps, mark)] + inner
