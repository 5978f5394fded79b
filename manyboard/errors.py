"""The refusals: one class for each, all of them under BoardError and none under another."""


class BoardError(ValueError):
    """What every refusal is."""

    def told(self):
        return "refused boarderror"


class BadCount(BoardError):
    """There are too few or too many of something."""

    def __init__(self, what, count):
        self.what = what
        self.count = count

    def told(self):
        return "refused badcount"


class NoName(BoardError):
    """A text is no name."""

    def __init__(self, name):
        self.name = name

    def told(self):
        return "refused noname"


class Twice(BoardError):
    """A name stands twice where it may stand once."""

    def __init__(self, name):
        self.name = name

    def told(self):
        return "refused twice"


class NoCell(BoardError):
    """The board has no cell of this name."""

    def __init__(self, name):
        self.name = name

    def told(self):
        return "refused nocell"


class NoValue(BoardError):
    """The cell does not have this value."""

    def __init__(self, cell, value):
        self.cell = cell
        self.value = value

    def told(self):
        return "refused novalue"


class BadText(BoardError):
    """A text of a program cannot be read on from this part."""

    def __init__(self, place):
        self.place = place

    def told(self):
        return "refused badtext"


class NoRoom(BoardError):
    """The machine has no room of this number."""

    def __init__(self, room):
        self.room = room

    def told(self):
        return "refused noroom"


class NoHand(BoardError):
    """There is no hand of this number."""

    def __init__(self, hand):
        self.hand = hand

    def told(self):
        return "refused nohand"


class NoStep(BoardError):
    """The hand's room has no step of this number."""

    def __init__(self, step):
        self.step = step

    def told(self):
        return "refused nostep"


class Shut(BoardError):
    """A look at a value that the cell does not hold."""

    def __init__(self, cell, value):
        self.cell = cell
        self.value = value

    def told(self):
        return "refused shut"


class NoMark(BoardError):
    """The program has no mark of this name."""

    def __init__(self, name):
        self.name = name

    def told(self):
        return "refused nomark"


class Wide(BoardError):
    """There are more than this many to go through."""

    def __init__(self, count):
        self.count = count

    def told(self):
        return "refused wide"


class Never(BoardError):
    """What is asked for never comes about."""

    def told(self):
        return "refused never"


class Beyond(BoardError):
    """This many followers are not enough."""

    def __init__(self, count):
        self.count = count

    def told(self):
        return "refused beyond"


class Full(BoardError):
    """The hall has no place for one more follower."""

    def told(self):
        return "refused full"


class NoBar(BoardError):
    """No bar of this name stands."""

    def __init__(self, name):
        self.name = name

    def told(self):
        return "refused nobar"


class Barred(BoardError):
    """What is to be barred may come about, and so it does."""

    def __init__(self, many, deeds):
        self.many = many
        # The list stays the caller's own, so what is changed in it later must not show here.
        self.deeds = list(deeds) if isinstance(deeds, list) else deeds

    def told(self):
        return "refused barred"


class BadRow(BoardError):
    """A row is not of its form."""

    def __init__(self, row):
        self.row = row

    def told(self):
        return "refused badrow"
