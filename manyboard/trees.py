"""Programs and their statements, and how they are written.

Each statement tells its `parts()`, the list of the parts of its text, and `within()`,
the tuple of the programs that stand within it.
"""

from manyboard.checks import need_count, need_names

MOST_STATEMENTS = 24
MOST_DEPTH = 6


class Write:
    """Puts a value into a cell."""

    def __init__(self, cell, value):
        need_names([cell, value])
        self.cell = cell
        self.value = value

    def parts(self):
        return ["write", self.cell, self.value]

    def within(self):
        return ()

    def __eq__(self, other):
        return isinstance(other, Write) and self.cell == other.cell and self.value == other.value


class Wait:
    """Goes on only while a cell holds a value."""

    def __init__(self, cell, value):
        need_names([cell, value])
        self.cell = cell
        self.value = value

    def parts(self):
        return ["wait", self.cell, self.value]

    def within(self):
        return ()

    def __eq__(self, other):
        return isinstance(other, Wait) and self.cell == other.cell and self.value == other.value


class Mark:
    """A place with a name, of which questions can ask."""

    def __init__(self, name):
        need_names([name])
        self.name = name

    def parts(self):
        return ["mark", self.name]

    def within(self):
        return ()

    def __eq__(self, other):
        return isinstance(other, Mark) and self.name == other.name


class Skip:
    """Goes on, and nothing else."""

    def parts(self):
        return ["skip"]

    def within(self):
        return ()

    def __eq__(self, other):
        return isinstance(other, Skip)


class Stop:
    """Never goes on."""

    def parts(self):
        return ["stop"]

    def within(self):
        return ()

    def __eq__(self, other):
        return isinstance(other, Stop)


class If:
    """Does one program where a cell holds a value, another one where it does not."""

    def __init__(self, cell, value, yes, no):
        need_names([cell, value])
        self.cell = cell
        self.value = value
        self.yes = yes
        self.no = no

    def parts(self):
        return ["if", self.cell, self.value, *braced(self.yes), "else", *braced(self.no)]

    def within(self):
        return (self.yes, self.no)

    def __eq__(self, other):
        return (isinstance(other, If) and self.cell == other.cell and self.value == other.value
                and self.yes == other.yes and self.no == other.no)


class While:
    """Does a program again and again, as long as a cell holds a value."""

    def __init__(self, cell, value, body):
        need_names([cell, value])
        self.cell = cell
        self.value = value
        self.body = body

    def parts(self):
        return ["while", self.cell, self.value, *braced(self.body)]

    def within(self):
        return (self.body,)

    def __eq__(self, other):
        return (isinstance(other, While) and self.cell == other.cell and self.value == other.value
                and self.body == other.body)


class Choose:
    """Does one of two programs, whichever."""

    def __init__(self, one, other):
        self.one = one
        self.other = other

    def parts(self):
        return ["choose", *braced(self.one), "or", *braced(self.other)]

    def within(self):
        return (self.one, self.other)

    def __eq__(self, other):
        return isinstance(other, Choose) and self.one == other.one and self.other == other.other


class Loop:
    """Does a program again and again, without an end."""

    def __init__(self, body):
        self.body = body

    def parts(self):
        return ["loop", *braced(self.body)]

    def within(self):
        return (self.body,)

    def __eq__(self, other):
        return isinstance(other, Loop) and self.body == other.body


class Program:
    """A row of statements, none or more."""

    def __init__(self, statements):
        need_count("statements", many_in(statements), 0, MOST_STATEMENTS)
        need_count("depth", depth_of(statements), 1, MOST_DEPTH)
        self.row = tuple(statements)

    def parts(self):
        return [part for statement in self.row for part in statement.parts()]

    def __eq__(self, other):
        return isinstance(other, Program) and self.row == other.row

    def __str__(self):
        return " ".join(self.parts())


def braced(program):
    """The parts of a program that stands within a statement."""
    return ["{", *program.parts(), "}"]


def programs_within(row):
    """The programs that stand within the statements of a row, but not those deeper in."""
    return [program for statement in row for program in statement.within()]


def many_in(row):
    """How many statements a row has, with all that stand within them."""
    return len(row) + sum([many_in(program.row) for program in programs_within(row)])


def depth_of(row):
    """The depth of the program that a row makes."""
    return 1 + max([depth_of(program.row) for program in programs_within(row)], default=0)
