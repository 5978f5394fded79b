"""Whether it may come about, and how.

A way is told from its end back to the beginning. Each entry has all rooms of the one ahead of it, so
a follower stays where it is unless its room has only just come in, and then it came there by still
steps. So a way takes no more followers than the question asks for and one for each step of a
follower between the entries: at most 6 and 299.
"""

from manyboard.crowds import walked
from manyboard.errors import Never
from manyboard.questions import need_fit
from manyboard.sheets import entry_meets


def may(game, question):
    """Whether some number of followers can ever bring a question about."""
    need_fit(game, question)
    return entry_that_meets(game, question, walked(game)) is not None


def way(game, question):
    """A number of followers and a list of moves that bring a question about."""
    need_fit(game, question)
    walk = walked(game)
    entry = entry_that_meets(game, question, walk)
    if entry is None:
        raise Never()
    machine = game.machine(1)
    marks = {machine.mark_of(room): room for room in entry[2]}
    return way_to(game, walk, entry, [marks[name] for name in question.follows])


def marks_met(game):
    """The names of the leader's marks and of the followers' marks at which a hand may ever be."""
    leads, rooms = rooms_met(game)
    return (marks_in(game.machine(0), leads), marks_in(game.machine(1), rooms))


def rooms_met(game):
    """The rooms in which the leader may ever be, and those in which a follower may ever be: dicts of True."""
    leads = {}
    follows = {}
    for lead, _, rooms in walked(game):
        leads[lead] = True
        for room in rooms:
            follows[room] = True
    return leads, follows


def marks_in(machine, rooms):
    """The names of the marks that stand in some rooms of a machine, sorted, each once."""
    marks = [machine.mark_of(room) for room in rooms]
    return sorted({mark for mark in marks if mark is not None})


def entry_that_meets(game, question, walk):
    """The first entry of a walk that meets a question, or None."""
    for entry in walk:
        if entry_meets(game, question, entry):
            return entry
    return None


def way_to(game, walk, entry, places):
    """The number of followers and the moves that come to an entry with followers in these rooms of it."""
    stretches = []
    while walk[entry] is not None:
        ahead, hand, room, step = walk[entry]
        trails = trails_to(game, entry[1], ahead[2], places)
        if hand == 1 and not any([is_along(trail, room, step) for trail in trails]):
            # Nobody who is needed later does this step, so one more follower comes in for it.
            trails.append([(room, step)])
            places = places + [room]
        stretches.append(stretch(hand, room, step, trails))
        places = [trail[0][0] if trail else place for trail, place in zip(trails, places)]
        entry = ahead
    stretches.append(moves_along(trails_to(game, entry[1], [0], places)))
    return (len(places), [move for moves in stretches[::-1] for move in moves])


def trails_to(game, state, rooms, places):
    """For each place the steps that lead there at a state from one of some rooms: pairs of room and step.

    All of them are still, so followers can go along them in any order; none where the place is one
    of these rooms.
    """
    steps = game.table(1).steps_at(state)
    came = {room: None for room in rooms}
    waiting = list(rooms)
    while waiting:
        room = waiting.pop(0)
        for step, target, after in steps[room]:
            if after == state and target not in came:
                came[target] = (room, step)
                waiting.append(target)
    return [trail_to(came, place) for place in places]


def trail_to(came, place):
    """The steps that lead to a place, by how each room was come to."""
    trail = []
    while came[place] is not None:
        trail.append(came[place])
        place = came[place][0]
    return trail[::-1]


def is_along(trail, room, step):
    """Whether a trail begins with this step.

    A step that changes the state is a put, and behind it the same put is still. So who goes along
    such a trail can do the step that changes the state.
    """
    return trail[:1] == [(room, step)]


def stretch(hand, room, step, trails):
    """The moves from one entry to the next: first the step between them, then all else at the state behind it."""
    if hand == 0:
        return [(0, step)] + moves_along(trails)
    firsts = [trail if is_along(trail, room, step) else [] for trail in trails]
    others = [[] if is_along(trail, room, step) else trail for trail in trails]
    return moves_along(firsts) + moves_along(others)


def moves_along(trails):
    """The moves of followers along their trails, one follower behind the other."""
    return [(place + 1, step) for place, trail in enumerate(trails) for _, step in trail]
