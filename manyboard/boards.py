"""The board: a few cells, each of which holds one of a few values."""

from manyboard.checks import need_count, need_names, need_once
from manyboard.errors import NoCell


class Board:
    """The cells by their names and values; each holds the first of its values at first."""

    def __init__(self, cells):
        need_count("cells", len(cells), 1, 3)
        for name, values in cells:
            need_names([name])
            need_values(values)
        need_once([name for name, _ in cells])
        # Tuples, so that neither the caller's lists nor the told ones reach in here.
        self._cells = tuple([(name, tuple(values)) for name, values in cells])

    def cells(self):
        """The names of the cells, in order."""
        return [name for name, _ in self._cells]

    def values_of(self, cell):
        """The values of a cell, in order."""
        for name, values in self._cells:
            if name == cell:
                return list(values)
        raise NoCell(cell)

    def first(self):
        """The state in which each cell holds the first of its values."""
        return tuple([values[0] for _, values in self._cells])

    def __eq__(self, other):
        return isinstance(other, Board) and self._cells == other._cells


def need_values(values):
    """Refuses what cannot be the values of one cell."""
    need_count("values", len(values), 2, 4)
    need_names(values)
    need_once(values)
