"""Sheets: lists of entries that whoever trusts nobody can look through."""

from manyboard.crowds import Crowd, bits_of
from manyboard.questions import lead_and_cells_meet, met, need_fit


def amiss(game, sheet):
    """What is amiss with a sheet, the first that is found, or None."""
    place = place_of_no_entry(game, sheet)
    if place is not None:
        return ("entry", place)
    first = game.board().first()
    if not any([lead == 0 and state == first and 0 in rooms for lead, state, rooms in sheet]):
        return ("begin",)
    return step_amiss(game, sheet)


def place_of_no_entry(game, sheet):
    """The first place of a sheet where the entry is none, or None."""
    leads = game.machine(0).rooms()
    # Many entries have a state or rooms in common, which are looked at once.
    states = {}
    crowds = {}
    for place, (lead, state, rooms) in enumerate(sheet):
        if state not in states:
            states[state] = is_state(game.board(), state)
        if rooms not in crowds:
            crowds[rooms] = are_rooms(game.machine(1), rooms)
        if not (0 <= lead < leads and states[state] and crowds[rooms]):
            return place
    return None


def are_rooms(machine, rooms):
    """Whether all of these are rooms of a machine, each greater than the one ahead of it."""
    rising = [low < high for low, high in zip(rooms, rooms[1:])]
    return all([0 <= room < machine.rooms() for room in rooms]) and all(rising)


def is_state(board, state):
    """Whether this is a state of the board."""
    cells = board.cells()
    if len(state) != len(cells):
        return False
    return all([value in board.values_of(cell) for cell, value in zip(cells, state)])


def step_amiss(game, sheet):
    """The first step that leads out of a sheet, or None."""
    leads = game.table(0)
    crowd = Crowd(game.table(1))
    marked = [(lead, state, bits_of(rooms)) for lead, state, rooms in sheet]
    held = {}
    for lead, state, bits in marked:
        held.setdefault((lead, state), []).append(bits)
    for place, (lead, state, bits) in enumerate(marked):
        for step, target, after in leads.steps_at(state)[lead]:
            if not has_all(held.get((target, after), []), bits):
                return ("step", place, 0, lead, step)
        # All other steps of a follower are answered by the entry itself.
        for room, step, after, behind in crowd.steps_out(state, bits):
            if not has_all(held.get((lead, after), []), behind):
                return ("step", place, 1, room, step)
    return None


def has_all(crowds, wanted):
    """Whether one of the crowds has all rooms that are wanted, each as bits."""
    for crowd in crowds:
        if (crowd & wanted) == wanted:
            return True
    return False


def shuts_out(game, sheet, question):
    """Whether a sheet shows that a question is never met."""
    need_fit(game, question)
    return amiss(game, sheet) is None and not any([entry_meets(game, question, entry) for entry in sheet])


def entry_meets(game, question, entry):
    """Whether an entry meets a question, with as many followers in each of its rooms as one likes."""
    lead, state, rooms = entry
    marks = [game.machine(1).mark_of(room) for room in rooms]
    return all([name in marks for name in question.follows]) and lead_and_cells_meet(game, question, lead, state)


def brings(game, many, moves, question):
    """Whether these moves of so many followers can all be played and meet a question."""
    need_fit(game, question)
    if game.stops_at(many, moves) is not None:
        return False
    return met(game, question, game.played(many, moves))
