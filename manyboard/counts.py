"""How many followers are needed: all standings of a few followers."""

from manyboard.checks import need_count
from manyboard.crowds import walked
from manyboard.errors import Beyond, Never, Wide
from manyboard.questions import need_fit, standing_meets
from manyboard.ways import entry_that_meets

MOST_STANDINGS = 600
MOST_COUNTED = 6


def standings(game, many):
    """The standings that so many followers can come to, the rooms of each sorted, sorted, each once."""
    need_count("followers", many, 0, MOST_COUNTED)
    return sorted(list(reached(game, many)))


def least(game, question):
    """The least number of followers that can bring a question about, and a list of moves that do."""
    need_fit(game, question)
    if entry_that_meets(game, question, walked(game)) is None:
        raise Never()
    for many in range(MOST_COUNTED + 1):
        found = reached(game, many)
        for standing in found:
            if standing_meets(game, question, standing):
                return (many, moves_to(found, standing, many))
    raise Beyond(MOST_COUNTED)


def reached(game, many):
    """The standings of so many followers in the order in which they are come to, each with how.

    That is None for the first one, else the standing ahead of it, the hand (0 or 1), the room and
    the number of the step between, and the room to which it leads. The followers' rooms are sorted.
    """
    begin = game.begin(many)
    found = {begin: None}
    layer = [begin]
    while layer:
        coming = []
        for standing in layer:
            for hand, room, step, target, behind in moves_from(game, standing):
                if behind not in found:
                    found[behind] = (standing, hand, room, step, target)
                    coming.append(behind)
            # Looked at in the midst: there may be far more than can be gone through.
            if len(found) > MOST_STANDINGS:
                raise Wide(MOST_STANDINGS)
        layer = coming
    return found


def moves_from(game, standing):
    """Each step that can be done at a standing: hand (0 or 1), room, step, room behind, standing behind."""
    lead, state, rooms = standing
    found = []
    for step, target, after in game.table(0).steps_at(state)[lead]:
        found.append((0, lead, step, target, (target, after, rooms)))
    steps = game.table(1).steps_at(state)
    for place, room in enumerate(rooms):
        # Of followers in the same room one stands for all.
        if room not in rooms[:place]:
            for step, target, after in steps[room]:
                behind = sorted(rooms[:place] + (target,) + rooms[place + 1:])
                found.append((1, room, step, target, (lead, after, tuple(behind))))
    return found


def moves_to(found, standing, many):
    """The moves of so many followers that come to one of the standings found."""
    path = []
    while found[standing] is not None:
        path.append(found[standing])
        standing = found[standing][0]
    rooms = [0] * many
    moves = []
    for _, hand, room, step, target in path[::-1]:
        if hand == 0:
            moves.append((0, step))
        else:
            place = rooms.index(room)
            rooms[place] = target
            moves.append((place + 1, step))
    return moves
