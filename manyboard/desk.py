"""Desks: a game and a hall of it, told and asked row by row.

For each word with which a row can begin there is a function that reads the other parts of the row
and then does what they say.
"""

from manyboard.counts import least
from manyboard.errors import BadRow, Barred, BoardError
from manyboard.games import Game
from manyboard.hall import Hall
from manyboard.texts import game_rows, move_row, read_game, read_move, read_number, read_question
from manyboard.trimming import trimmed
from manyboard.ways import marks_met, may, way


def row_of_join(hall, rest):
    need_parts(rest, 0)
    return [str(hall.join())]


def row_of_leave(hall, rest):
    need_parts(rest, 1)
    hall.leave(read_number(rest[0]))
    return ["done"]


def row_of_move(hall, rest):
    hand, step = read_move(" ".join(rest))
    hall.move(hand, step)
    return ["done"]


def row_of_bar(hall, rest):
    # Read ahead of the name: a row that is not whole is refused for that, whatever its name is.
    question = read_question(" ".join(rest[1:]))
    hall.bar(rest[0], question)
    return ["done"]


def row_of_lift(hall, rest):
    need_parts(rest, 1)
    hall.lift(rest[0])
    return ["done"]


def row_of_may(hall, rest):
    return [yes_or_no(may(hall.game(), read_question(" ".join(rest))))]


def rows_of_way(hall, rest):
    many, moves = way(hall.game(), read_question(" ".join(rest)))
    return way_rows(many, moves)


def rows_of_least(hall, rest):
    many, moves = least(hall.game(), read_question(" ".join(rest)))
    return way_rows(many, moves)


def row_of_meets(hall, rest):
    return [yes_or_no(hall.meets(read_question(" ".join(rest))))]


def rows_of_marks(hall, rest):
    need_parts(rest, 0)
    leads, follows = marks_met(hall.game())
    return [" ".join(["lead", *leads]), " ".join(["with", *follows])]


def rows_of_trim(hall, rest):
    need_parts(rest, 0)
    leader, follower = trimmed(hall.game())
    return game_rows(Game(hall.game().board(), leader, follower))


def rows_of_game(hall, rest):
    need_parts(rest, 0)
    return game_rows(hall.game())


def rows_of_hall(hall, rest):
    need_parts(rest, 0)
    lead, state, hands = hall.standing()
    cells = hall.game().board().cells()
    return ([f"lead {lead}"] + [f"cell {cell} {value}" for cell, value in zip(cells, state)]
            + [f"hand {hand} {room}" for hand, room in hands])


def rows_of_bars(hall, rest):
    need_parts(rest, 0)
    return hall.bars()


WORDS = {
    "join": row_of_join,
    "leave": row_of_leave,
    "move": row_of_move,
    "bar": row_of_bar,
    "lift": row_of_lift,
    "may": row_of_may,
    "way": rows_of_way,
    "least": rows_of_least,
    "meets": row_of_meets,
    "marks": rows_of_marks,
    "trim": rows_of_trim,
    "game": rows_of_game,
    "hall": rows_of_hall,
    "bars": rows_of_bars,
}


class Desk:
    """A game and its hall, by rows of text alone."""

    def __init__(self, rows):
        self._hall = Hall(read_game(rows))

    def tell(self, row):
        """The answer to a row, a list of texts."""
        try:
            return answer(self._hall, row.split(" "))
        except Barred as bar:
            return [bar.told()] + way_rows(bar.many, bar.deeds)
        except BoardError as refusal:
            return [refusal.told()]


def answer(hall, parts):
    """What a row of these parts is answered with."""
    if "" in parts or parts[0] not in WORDS:
        raise BadRow(0)
    deed = WORDS[parts[0]]
    return deed(hall, parts[1:])


def need_parts(rest, many):
    """Refuses with BadRow where not so many parts stand behind the word of a row."""
    if len(rest) != many:
        raise BadRow(0)


def way_rows(many, moves):
    """The rows of a number of followers and of moves."""
    return [str(many)] + [move_row(move) for move in moves]


def yes_or_no(holds):
    """The word for what holds or does not."""
    return "yes" if holds else "no"
