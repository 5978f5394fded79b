"""Reads the texts of programs.

A text is looked through as a whole before anything is made of it: a program within it that has
too much by itself must not be refused ahead of a bad part, or with its own count.
"""

from manyboard.checks import is_name, need_count
from manyboard.errors import BadText
from manyboard.trees import MOST_DEPTH, MOST_STATEMENTS
from manyboard.trees import Choose, If, Loop, Mark, Program, Skip, Stop, Wait, While, Write

MOST_PARTS = 200

# What stands behind the word of each statement. A "row" is the parts of a program and the closing
# brace behind them; all but "name" and "row" stand as they are.
FORMS = {
    "write": ("name", "name"),
    "wait": ("name", "name"),
    "mark": ("name",),
    "skip": (),
    "stop": (),
    "if": ("name", "name", "{", "row", "else", "{", "row"),
    "while": ("name", "name", "{", "row"),
    "choose": ("{", "row", "or", "{", "row"),
    "loop": ("{", "row"),
}


def read_program(text):
    """The program of which this is the text."""
    # Splitting would tell one empty part of the text without signs, which has none.
    parts = text.split(" ") if text else []
    need_count("parts", len(parts), 0, MOST_PARTS)
    many, depth = measured(parts)
    need_count("statements", many, 0, MOST_STATEMENTS)
    need_count("depth", depth, 1, MOST_DEPTH)
    program, _ = program_from(parts, 0)
    return program


def measured(parts):
    """How many statements the parts tell, and how deep; refuses with BadText."""
    # What is still to come, the nearest last. A list of its own, not calls within calls: a text
    # may be far deeper than a program, and is to be refused for it only behind its last part.
    waiting = ["row"]
    many = 0
    depth = deepest = 1
    for place, part in enumerate(parts):
        wanted = waiting.pop()
        if not can_stand(part, wanted, depth):
            raise BadText(place)
        if wanted == "{":
            depth += 1
            deepest = max(deepest, depth)
        elif wanted == "row" and part == "}":
            depth -= 1
        elif wanted == "row":
            many += 1
            waiting.append("row")
            waiting.extend(FORMS[part][::-1])
    if len(waiting) > 1:
        raise BadText(len(parts))
    return many, deepest


def can_stand(part, wanted, depth):
    """Whether a part can stand where this is wanted, within so many programs."""
    if wanted == "name":
        return is_name(part)
    if wanted == "row":
        return part in FORMS or (part == "}" and depth > 1)
    return part == wanted


def program_from(parts, at):
    """The program whose parts begin at this place, and the place behind its closing brace."""
    row = []
    while at < len(parts) and parts[at] != "}":
        statement, at = statement_from(parts, at)
        row.append(statement)
    return Program(row), at + 1


def statement_from(parts, at):
    """The statement whose word stands at this place, and the place behind it."""
    word = parts[at]
    names = []
    programs = []
    at += 1
    for wanted in FORMS[word]:
        if wanted == "row":
            program, at = program_from(parts, at)
            programs.append(program)
        else:
            if wanted == "name":
                names.append(parts[at])
            at += 1
    return statement_of(word, names, programs), at


def statement_of(word, names, programs):
    """The statement of this word with these names and programs."""
    if word == "write":
        return Write(names[0], names[1])
    if word == "wait":
        return Wait(names[0], names[1])
    if word == "mark":
        return Mark(names[0])
    if word == "skip":
        return Skip()
    if word == "stop":
        return Stop()
    if word == "if":
        return If(names[0], names[1], programs[0], programs[1])
    if word == "while":
        return While(names[0], names[1], programs[0])
    if word == "choose":
        return Choose(programs[0], programs[1])
    return Loop(programs[0])
