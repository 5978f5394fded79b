"""The crowd: however many followers there are, told together by the rooms where some may be.

Rooms that stand together are kept here as the bits of one number: many of them are held against
many others.
"""

from manyboard.errors import Wide

MOST_ENTRIES = 300


class Crowd:
    """What the followers of one table come to, told together.

    Kept once it is told: many entries differ in the leader's room alone.
    """

    def __init__(self, table):
        self._table = table
        self._closed = {}
        self._out = {}

    def closed(self, state, bits):
        """The bits of the rooms to which still steps at a state lead from some rooms, with these."""
        key = (state, bits)
        if key not in self._closed:
            self._closed[key] = self._closed_anew(state, bits)
        return self._closed[key]

    def _closed_anew(self, state, bits):
        steps = self._table.steps_at(state)
        waiting = list(rooms_of(bits))
        while waiting:
            room = waiting.pop()
            for _, target, after in steps[room]:
                if after == state and not has(bits, target):
                    bits = bits | (1 << target)
                    waiting.append(target)
        return bits

    def steps_out(self, state, bits):
        """The steps of a follower from some rooms that lead to another state or to a room not among these.

        In order, each told by its room, its number, and the state and the bits of the rooms behind
        it. Of those with the same behind them the first one stands for all.
        """
        key = (state, bits)
        if key not in self._out:
            self._out[key] = self._steps_out_anew(state, bits)
        return self._out[key]

    def _steps_out_anew(self, state, bits):
        steps = self._table.steps_at(state)
        seen = {(state, bits): True}
        found = []
        for room in rooms_of(bits):
            for step, target, after in steps[room]:
                behind = (after, bits | (1 << target))
                if behind not in seen:
                    seen[behind] = True
                    found.append((room, step, behind[0], behind[1]))
        return tuple(found)


def bits_of(rooms):
    """Rooms as the bits of one number."""
    bits = 0
    for room in rooms:
        bits = bits | (1 << room)
    return bits


def rooms_of(bits):
    """The rooms that are told by the bits of a number, sorted."""
    return tuple([room for room in range(bits.bit_length()) if has(bits, room)])


def has(bits, room):
    """Whether a room is among those told by the bits of a number."""
    return (bits >> room) & 1 == 1


def gathered(game, state, rooms):
    """The rooms to which still steps at a state lead from some rooms, with these: sorted, each once."""
    return rooms_of(Crowd(game.table(1)).closed(state, bits_of(rooms)))


def entries(game):
    """The entries of a game, sorted, each once."""
    return sorted(list(walked(game)))


def walked(game):
    """The entries of a game in the order in which they are come to, each with how.

    That is None for the first one, else the entry ahead of it, the hand (0 or 1), the room and the
    number of the step between.
    """
    found = walked_by_bits(game)
    told = {}
    kept = {}
    for lead, state, bits in found:
        if bits not in kept:
            kept[bits] = rooms_of(bits)
        told[(lead, state, bits)] = (lead, state, kept[bits])
    walk = {}
    for entry, how in found.items():
        walk[told[entry]] = None if how is None else (told[how[0]], how[1], how[2], how[3])
    return walk


def walked_by_bits(game):
    """What walked tells, the rooms of each entry as bits."""
    crowd = Crowd(game.table(1))
    first = game.board().first()
    begin = (0, first, crowd.closed(first, bits_of([0])))
    found = {begin: None}
    layer = [begin]
    while layer:
        coming = []
        for entry in layer:
            for hand, room, step, behind in strides(game.table(0), crowd, entry):
                if behind not in found:
                    found[behind] = (entry, hand, room, step)
                    coming.append(behind)
            # Looked at in the midst: without a bound there may be far more than can be gone through.
            if len(found) > MOST_ENTRIES:
                raise Wide(MOST_ENTRIES)
        layer = coming
    return found


def strides(leads, crowd, entry):
    """What the steps from an entry lead to, but for the still ones of the followers: hand, room, step, entry."""
    lead, state, bits = entry
    found = []
    for step, target, after in leads.steps_at(state)[lead]:
        found.append((0, lead, step, (target, after, crowd.closed(after, bits))))
    for room, step, after, behind in crowd.steps_out(state, bits):
        found.append((1, room, step, (lead, after, crowd.closed(after, behind))))
    return found
