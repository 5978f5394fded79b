"""The crowd: however many followers there are, told together by the rooms where some may be."""

from manyboard.acts import steps_at
from manyboard.errors import Wide

MOST_ENTRIES = 300


def gathered(game, state, rooms):
    """The rooms to which still steps at a state lead from some rooms, with these: sorted, each once."""
    found = set(rooms)
    waiting = list(rooms)
    while waiting:
        room = waiting.pop()
        for _, target, after in steps_at(game.board(), game.machine(1), room, state):
            if after == state and target not in found:
                found.add(target)
                waiting.append(target)
    return tuple(sorted(found))


def entries(game):
    """The entries of a game, sorted, each once."""
    first = game.board().first()
    begin = (0, first, gathered(game, first, [0]))
    found = {begin: True}
    waiting = [begin]
    while waiting:
        entry = waiting.pop()
        for another in entries_behind(game, entry):
            if another not in found:
                found[another] = True
                waiting.append(another)
        # Looked at in the midst: without a bound there may be far more than can be gone through.
        if len(found) > MOST_ENTRIES:
            raise Wide(MOST_ENTRIES)
    return sorted(found)


def entries_behind(game, entry):
    """The entries to which the steps from an entry lead, but for the still ones of the followers."""
    found = []
    for hand, _, _, (lead, state, rooms) in steps_on(game, entry):
        if hand == 0 or state != entry[1]:
            found.append((lead, state, gathered(game, state, rooms)))
    return found


def steps_on(game, entry):
    """Each step that can be done at an entry: hand (0 or 1), room, step, and what is behind it.

    The leader's come first, then room by room those of a follower. What is behind a step is a tuple
    of the leader's room, the state, and the entry's rooms with the one to which a follower went.
    """
    lead, state, rooms = entry
    found = []
    for step, target, after in steps_at(game.board(), game.machine(0), lead, state):
        found.append((0, lead, step, (target, after, rooms)))
    for room in rooms:
        for step, target, after in steps_at(game.board(), game.machine(1), room, state):
            found.append((1, room, step, (lead, after, rooms + (target,))))
    return found
