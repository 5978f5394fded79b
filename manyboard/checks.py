"""The checks that more than one file makes of what is handed in."""

from manyboard.errors import BadCount, NoName, NoValue, Twice

LETTERS = "abcdefghijklmnopqrstuvwxyz"
LETTERS_AND_FIGURES = "abcdefghijklmnopqrstuvwxyz0123456789"
LONGEST_NAME = 10


def is_name(text):
    """Whether a text is a name: 1 to 10 small letters and figures, a letter ahead."""
    if not 1 <= len(text) <= LONGEST_NAME or text[0] not in LETTERS:
        return False
    return all([sign in LETTERS_AND_FIGURES for sign in text])


def need_names(texts):
    """Refuses with NoName for the first text that is no name."""
    for text in texts:
        if not is_name(text):
            raise NoName(text)


def need_once(names):
    """Refuses with Twice for the first name that stands ahead of itself."""
    for place, name in enumerate(names):
        if name in names[:place]:
            raise Twice(name)


def need_count(what, count, low, high):
    """Refuses with BadCount where a count is not from low to high."""
    if not low <= count <= high:
        raise BadCount(what, count)


def need_value(board, cell, value):
    """Refuses with NoCell, then with NoValue, where the board does not have a cell with this value."""
    if value not in board.values_of(cell):
        raise NoValue(cell, value)
