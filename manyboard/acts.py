"""What can be done at a statement, and what an act does to a state of the board.

The rows that are left and the rooms of a machine are both told from `branches`, so that the acts
of a text and of its machine cannot differ.
"""

from manyboard.checks import need_value
from manyboard.trees import Choose, If, Loop, Stop, Wait, While, Write


def branches(board, statement):
    """The acts that stand at a statement, in order, each with where it leads.

    That is the place of a program among those within the statement, or None for what is behind
    the statement. Refused with NoCell, NoValue where the board does not have what is named.
    """
    if isinstance(statement, (Write, Wait, If, While)):
        need_value(board, statement.cell, statement.value)
    if isinstance(statement, Stop):
        return []
    if isinstance(statement, Write):
        return [(("put", statement.cell, statement.value), None)]
    if isinstance(statement, Wait):
        return [(("look", statement.cell, statement.value), None)]
    if isinstance(statement, If):
        return looks(board, statement, 1)
    if isinstance(statement, While):
        return looks(board, statement, None)
    if isinstance(statement, Choose):
        return [(("go",), 0), (("go",), 1)]
    if isinstance(statement, Loop):
        return [(("go",), 0)]
    return [(("go",), None)]


def looks(board, statement, otherwise):
    """A look at the statement's value into its first program, and one at each other value."""
    cell = statement.cell
    others = [value for value in board.values_of(cell) if value != statement.value]
    return [(("look", cell, statement.value), 0)] + [(("look", cell, value), otherwise) for value in others]


def comes_again(statement):
    """Whether a statement itself stands behind the programs within it."""
    return isinstance(statement, (While, Loop))


def state_behind(board, state, act):
    """The state behind an act, or None where the act cannot be done at this state."""
    if act[0] == "go":
        return state
    _, cell, value = act
    place = board.cells().index(cell)
    if act[0] == "put":
        return state[:place] + (value,) + state[place + 1:]
    return state if state[place] == value else None
