"""Questions: what is asked of one moment of a game."""

from manyboard.checks import need_count, need_names, need_once, need_value
from manyboard.errors import NoMark

MOST_FOLLOWS = 6


class Question:
    """Where the leader is to be, where followers are to be, and what cells are to hold."""

    def __init__(self, lead=None, follows=None, holds=None):
        asked = [] if follows is None else follows
        told = [] if holds is None else holds
        need_count("follows", len(asked), 0, MOST_FOLLOWS)
        need_names([] if lead is None else [lead])
        need_names(asked)
        need_names([name for pair in told for name in pair])
        need_once([cell for cell, _ in told])
        self.lead = lead
        self.follows = tuple(asked)
        self.holds = tuple([(cell, value) for cell, value in told])

    def __eq__(self, other):
        return (isinstance(other, Question) and self.lead == other.lead and self.follows == other.follows
                and self.holds == other.holds)


def met(game, question, standing):
    """Whether a standing meets a question."""
    need_fit(game, question)
    return standing_meets(game, question, standing)


def standing_meets(game, question, standing):
    """Whether a standing meets a question that fits the game."""
    room, state, rooms = standing
    marks = [game.machine(1).mark_of(place) for place in rooms]
    enough = [marks.count(name) >= question.follows.count(name) for name in question.follows]
    return all(enough) and lead_and_cells_meet(game, question, room, state)


def need_fit(game, question):
    """Refuses a question that asks for a mark, a cell or a value that the game does not have."""
    need_mark(game.machine(0), [] if question.lead is None else [question.lead])
    need_mark(game.machine(1), question.follows)
    for cell, value in question.holds:
        need_value(game.board(), cell, value)


def need_mark(machine, names):
    """Refuses with NoMark for the first name that is no mark of a machine."""
    marks = machine.marks()
    for name in names:
        if name not in marks:
            raise NoMark(name)


def lead_and_cells_meet(game, question, room, state):
    """Whether the leader's room and the state are as a question asks."""
    if question.lead is not None and game.machine(0).mark_of(room) != question.lead:
        return False
    cells = game.board().cells()
    return all([state[cells.index(cell)] == value for cell, value in question.holds])
