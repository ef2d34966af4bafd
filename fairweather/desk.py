"""Desks: a world that is told line by line what comes, and is asked line by line what came of it."""

from fairweather.asks import ANSWERS, done_answer, read_ask
from fairweather.checks import LEAST_SHORT, MOST_SHORT
from fairweather.errors import BadEvent, TooMany
from fairweather.sweeps import sweep
from fairweather.texts import Reader
from fairweather.weathers import fits, read_event
from fairweather.worlds import World

MOST_LINES = 200


def read_deed(reader, net):
    """The events of the deed that stands next in a line."""
    if reader.peek() == "sweep":
        reader.take_word("sweep")
        given = reader.take_number(LEAST_SHORT, MOST_SHORT)
        reader.close()
        return sweep(net, given).events
    event = read_event(reader)
    reader.close()
    if not fits(net, event):
        raise BadEvent("event")
    return (event,)


class Desk:
    """A world, and the lines of the deeds that were done to it: it changes with each one."""

    def __init__(self, program, net, m, s=0):
        self.world = World(program, net, m, s)
        self.program = program
        self.net = net
        self.m = m
        self.s = s
        self.log = ()
        # The states of the world ahead of the lines of the log.
        self.ahead = []

    def __eq__(self, other):
        if not isinstance(other, Desk) or self.program != other.program or self.net != other.net:
            return False
        return self.m == other.m and self.s == other.s and self.log == other.log

    def __len__(self):
        return len(self.log)

    def told(self, line):
        """Does the deed of a line, or answers the ask of a line; returns the answer."""
        reader = Reader(line)
        word = reader.peek()
        if word in ANSWERS:
            numbers = read_ask(reader, self.net)
            answer = ANSWERS[word]
            return answer(self.world, *numbers)
        events = read_deed(reader, self.net)
        if len(self.log) == MOST_LINES:
            raise TooMany("lines", MOST_LINES)
        self.ahead.append(self.world.state())
        for event in events:
            self.world.let_come(event)
        self.log = (*self.log, line)
        return done_answer(self.world)

    def undo(self):
        """Takes back the last deed, and returns its line, None if there is none."""
        if not self.log:
            return None
        line = self.log[-1]
        self.log = self.log[:-1]
        self.world.restore(self.ahead.pop())
        return line

    def twin(self):
        """A second desk with an equal log, which goes its own way from here on."""
        other = Desk(self.program, self.net, self.m, self.s)
        other.log = self.log
        other.ahead = list(self.ahead)
        other.world.restore(self.world.state())
        return other
