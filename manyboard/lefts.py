"""What is left of a row of statements behind a step."""

from manyboard.acts import branches, comes_again


def left(board, row):
    """The steps that a hand may do next: each act with the list of statements behind it."""
    if not row:
        return []
    statement = row[0]
    return [(act, row_behind(row, where)) for act, where in branches(board, statement)]


def row_behind(row, where):
    """A new list of what is left where a step leads into a program of the first statement, or past it."""
    rest = list(row[1:])
    if where is None:
        return rest
    statement = row[0]
    again = [statement] if comes_again(statement) else []
    return list(statement.within()[where].row) + again + rest
