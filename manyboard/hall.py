"""Halls: games that go on, with followers that come and go."""

from manyboard.checks import need_count, need_names
from manyboard.errors import Barred, Full, Never, NoBar, NoHand, Twice
from manyboard.questions import met, need_fit
from manyboard.ways import way

MOST_THERE = 60
MOST_BARS = 4


class Hall:
    """A game that goes on: what was done, and what has come of it."""

    def __init__(self, game):
        self._game = game
        self._lead, self._state, _ = game.begin(0)
        # The rooms of the followers that are there, by their numbers in the order of coming.
        self._follows = {}
        self._given = 0
        self._story = []
        self._bars = []

    def game(self):
        """The game."""
        return self._game

    def join(self):
        """A follower comes; told is its number."""
        if len(self._follows) == MOST_THERE:
            raise Full()
        self._given += 1
        self._follows[self._given] = 0
        self._story.append(("join",))
        return self._given

    def leave(self, hand):
        """A follower goes."""
        if hand not in self._follows:
            raise NoHand(hand)
        del self._follows[hand]
        self._story.append(("leave", hand))

    def move(self, hand, step):
        """A hand that is there does a step from its room."""
        hands = [0] + list(self._follows)
        if hand not in hands:
            raise NoHand(hand)
        lead, state, rooms = self._game.moved(self._moment(), (hands.index(hand), step))
        self._lead = lead
        self._state = state
        self._follows = dict(zip(hands[1:], rooms))
        self._story.append(("move", hand, step))

    def standing(self):
        """The leader's room, the state, and the pairs of each follower's number and room."""
        return (self._lead, self._state, tuple(self._follows.items()))

    def meets(self, question):
        """Whether this moment meets a question."""
        return met(self._game, question, self._moment())

    def story(self):
        """What was done, in order."""
        return list(self._story)

    def bar(self, name, question):
        """Puts in a question that is never to be met."""
        need_names([name])
        if name in self._bars:
            raise Twice(name)
        need_fit(self._game, question)
        need_count("bars", len(self._bars) + 1, 1, MOST_BARS)
        need_never(self._game, question)
        self._bars.append(name)

    def bars(self):
        """The names of the bars, sorted."""
        return sorted(self._bars)

    def lift(self, name):
        """Takes a bar out."""
        if name not in self._bars:
            raise NoBar(name)
        self._bars.remove(name)

    def _moment(self):
        return (self._lead, self._state, tuple(self._follows.values()))


def need_never(game, question):
    """Refuses with Barred where a question may come about, with a way to it."""
    try:
        many, deeds = way(game, question)
    except Never:
        return
    raise Barred(many, deeds)


def told_again(game, story):
    """The hall in which all of a story was done."""
    hall = Hall(game)
    for deed in story:
        if deed[0] == "join":
            hall.join()
        elif deed[0] == "leave":
            hall.leave(deed[1])
        else:
            hall.move(deed[1], deed[2])
    return hall
