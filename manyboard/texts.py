"""The texts of games, of questions and of moves.

Each is looked through by its form before anything is made of it.
"""

from manyboard.boards import Board
from manyboard.errors import BadRow
from manyboard.games import Game
from manyboard.questions import Question
from manyboard.reading import read_program

FIGURES = "0123456789"
MOST_FIGURES = 9


def game_rows(game):
    """The rows of a game."""
    board = game.board()
    rows = [" ".join(["cell", cell, *board.values_of(cell)]) for cell in board.cells()]
    return rows + [program_row("leader", game.program(0)), program_row("follower", game.program(1))]


def program_row(word, program):
    """The row of a program, which is the word alone where the program has no statement."""
    return " ".join([word, *program.parts()])


def read_game(rows):
    """The game of which these are the rows."""
    if len(rows) < 2:
        raise BadRow(len(rows))
    words = ["cell"] * (len(rows) - 2) + ["leader", "follower"]
    split = [row.split(" ") for row in rows]
    for place, (word, parts) in enumerate(zip(words, split)):
        if not is_row(word, parts):
            raise BadRow(place)
    board = Board([(parts[1], parts[2:]) for parts in split[:-2]])
    leader = read_program(" ".join(split[-2][1:]))
    follower = read_program(" ".join(split[-1][1:]))
    return Game(board, leader, follower)


def is_row(word, parts):
    """Whether the parts of a row are of the form that begins with this word."""
    return "" not in parts and parts[0] == word and (word != "cell" or len(parts) > 1)


def question_row(question):
    """The text of a question."""
    parts = [] if question.lead is None else ["lead", question.lead]
    for name in question.follows:
        parts.extend(["with", name])
    for cell, value in question.holds:
        parts.extend(["holds", cell, value])
    return " ".join(parts) if parts else "any"


def read_question(text):
    """The question of which this is the text."""
    if text == "any":
        return Question()
    parts = text.split(" ")
    if "" in parts:
        raise BadRow(0)
    leads, at = groups_of("lead", 1, parts, 0)
    follows, at = groups_of("with", 1, parts, at)
    holds, at = groups_of("holds", 2, parts, at)
    if len(leads) > 1 or at < len(parts):
        raise BadRow(0)
    lead = leads[0][0] if leads else None
    return Question(lead, [group[0] for group in follows], [(group[0], group[1]) for group in holds])


def groups_of(word, many, parts, at):
    """The groups of so many parts, each behind this word, from a place on, and the place behind them."""
    found = []
    while at < len(parts) and parts[at] == word:
        group = parts[at + 1:at + 1 + many]
        if len(group) < many:
            raise BadRow(0)
        found.append(group)
        at += 1 + many
    return found, at


def move_row(move):
    """The text of a move."""
    hand, step = move
    return f"{hand} {step}"


def read_move(text):
    """The move of which this is the text."""
    parts = text.split(" ")
    if len(parts) != 2:
        raise BadRow(0)
    return (read_number(parts[0]), read_number(parts[1]))


def read_number(part):
    """The number that a part tells: one to nine figures, without a nought ahead but nought itself."""
    if not 1 <= len(part) <= MOST_FIGURES or not all([sign in FIGURES for sign in part]):
        raise BadRow(0)
    if part[0] == "0" and part != "0":
        raise BadRow(0)
    return int(part)
