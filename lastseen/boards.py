"""Boards: several things whose marks are aged together."""

from lastseen.errors import BadMoment, BadThings, NoThing
from lastseen.rules import aged_on, check_rule, end_mark, seen
from lastseen.spans import span

MOST_THINGS = 8
LONGEST_PASS = 1000


class Board:
    """Things, numbered from 0, and the mark of each, from moment 0 on."""

    def __init__(self, rule, things):
        check_rule(rule)
        if things < 1 or things > MOST_THINGS:
            raise BadThings("no board has so many things")
        self._rule = rule
        self._marks = [end_mark(rule)] * things
        self._moment = 0

    def see(self, thing):
        """The thing is seen in this moment."""
        self._check_thing(thing)
        self._marks[thing] = seen(self._rule, self._marks[thing])

    def pass_by(self, many):
        """So many moments go by; tells what moment it is then."""
        if many < 1 or many > LONGEST_PASS:
            raise BadMoment("so many moments can't go by at once")
        then = self._moment + many
        self._marks = [aged_on(self._rule, mark, self._moment, then) for mark in self._marks]
        self._moment = then
        return then

    def marks(self):
        """The mark of each thing."""
        return list(self._marks)

    def age(self, thing):
        """How long ago the thing was last seen, at the least and at the most."""
        self._check_thing(thing)
        return span(self._rule, self._moment, self._marks[thing])

    def ages(self):
        """How long ago each thing was last seen, at the least and at the most."""
        return [self.age(thing) for thing in range(len(self._marks))]

    def oldest(self):
        """The things that may be the one that was not seen for the longest, rising."""
        ages = self.ages()
        found = []
        for thing, age in enumerate(ages):
            # A thing is never surely older than itself, so it may stand among the others.
            if not any([_surely_older(other, age) for other in ages]):
                found.append(thing)
        return found

    def now(self):
        """What moment it is."""
        return self._moment

    def _check_thing(self, thing):
        if thing < 0 or thing >= len(self._marks):
            raise NoThing("the board has no such thing")


def played(rule, things, steps):
    """What a new board tells step by step, and the board."""
    board = Board(rule, things)
    told = []
    for word, number in steps:
        told.append(_told(board, word, number))
    return (told, board)


def _told(board, word, number):
    """What the board tells of one step, or the name of the refusal."""
    try:
        if word == "see":
            board.see(number)
            return None
        if word == "pass":
            return board.pass_by(number)
        return board.age(number)
    except NoThing:
        return "NoThing"
    except BadMoment:
        return "BadMoment"


def _surely_older(age, other):
    """Whether a thing of this age was surely not seen for longer than the other one."""
    least, _ = age
    _, most = other
    # If the other one may never have been seen, nothing is older.
    if most is None:
        return False
    return least is None or least > most
