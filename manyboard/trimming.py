"""What is left of programs where all that no hand ever comes to is left out."""

from manyboard.trees import Choose, If, Loop, Program, While, many_in
from manyboard.ways import rooms_met


def trimmed(game):
    """The leader's program and the followers', each row cut ahead of what no hand of that sort comes to."""
    leads, follows = rooms_met(game)
    return (trimmed_program(game.program(0), 0, leads), trimmed_program(game.program(1), 0, follows))


def trimmed_program(program, room, come_to):
    """A program whose first statement has this room, trimmed to the rooms that are come to."""
    kept = []
    for statement in program.row:
        # Told by the room and not by the statement: the very same one may stand at several places.
        if room not in come_to:
            break
        kept.append(trimmed_statement(statement, room, come_to))
        room += many_in([statement])
    return Program(kept)


def trimmed_statement(statement, room, come_to):
    """A statement with the programs within it trimmed."""
    programs = []
    room += 1
    for program in statement.within():
        programs.append(trimmed_program(program, room, come_to))
        room += many_in(program.row)
    if isinstance(statement, If):
        return If(statement.cell, statement.value, programs[0], programs[1])
    if isinstance(statement, While):
        return While(statement.cell, statement.value, programs[0])
    if isinstance(statement, Choose):
        return Choose(programs[0], programs[1])
    if isinstance(statement, Loop):
        return Loop(programs[0])
    return statement
