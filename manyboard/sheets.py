"""Sheets: lists of entries that whoever trusts nobody can look through."""

from manyboard.crowds import steps_on
from manyboard.questions import lead_and_cells_meet, met, need_fit


def amiss(game, sheet):
    """What is amiss with a sheet, the first that is found, or None."""
    for place, entry in enumerate(sheet):
        if not is_entry(game, entry):
            return ("entry", place)
    first = game.board().first()
    if not any([lead == 0 and state == first and 0 in rooms for lead, state, rooms in sheet]):
        return ("begin",)
    return step_amiss(game, sheet)


def is_entry(game, entry):
    """Whether this can be an entry of a game."""
    lead, state, rooms = entry
    most = game.machine(1).rooms()
    rising = [low < high for low, high in zip(rooms, rooms[1:])]
    return (0 <= lead < game.machine(0).rooms() and is_state(game.board(), state)
            and all([0 <= room < most for room in rooms]) and all(rising))


def is_state(board, state):
    """Whether this is a state of the board."""
    cells = board.cells()
    if len(state) != len(cells):
        return False
    return all([value in board.values_of(cell) for cell, value in zip(cells, state)])


def step_amiss(game, sheet):
    """The first step that leads out of a sheet, or None."""
    crowds = {}
    for lead, state, rooms in sheet:
        crowds.setdefault((lead, state), []).append(bits(rooms))
    for place, entry in enumerate(sheet):
        for hand, room, step, (lead, state, rooms) in steps_on(game, entry):
            if not has_all(crowds.get((lead, state), []), bits(rooms)):
                return ("step", place, hand, room, step)
    return None


def bits(rooms):
    """Rooms as the bits of one number: a sheet is long, and many crowds are held against many."""
    number = 0
    for room in rooms:
        number = number | (1 << room)
    return number


def has_all(crowds, wanted):
    """Whether one of the crowds has all rooms that are wanted, each as bits."""
    for crowd in crowds:
        if (crowd & wanted) == wanted:
            return True
    return False


def shuts_out(game, sheet, question):
    """Whether a sheet shows that a question is never met."""
    need_fit(game, question)
    return amiss(game, sheet) is None and not any([entry_meets(game, question, entry) for entry in sheet])


def entry_meets(game, question, entry):
    """Whether an entry meets a question, with as many followers in each of its rooms as one likes."""
    lead, state, rooms = entry
    marks = [game.machine(1).mark_of(room) for room in rooms]
    return all([name in marks for name in question.follows]) and lead_and_cells_meet(game, question, lead, state)


def brings(game, many, moves, question):
    """Whether these moves of so many followers can all be played and meet a question."""
    need_fit(game, question)
    if game.stops_at(many, moves) is not None:
        return False
    return met(game, question, game.played(many, moves))
