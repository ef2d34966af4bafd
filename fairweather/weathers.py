"""Weathers: rows of events."""

from fairweather.checks import LEAST_SHORT, MOST_SHORT, is_list, is_lot, is_within
from fairweather.errors import BadEvent
from fairweather.lines import MOST_BACK
from fairweather.nets import MOST_HOUSES, check_net
from fairweather.papers import fixed
from fairweather.texts import Reader

MOST_EVENTS = 2000
MOST_STEPS = 50000
MOST_KEPT = 100

# What stands behind the word of each event.
EVENTS = {
    "beat": ("house", "short"),
    "steps": ("house", "steps", "short"),
    "cut": ("house", "lot"),
    "fall": ("house",),
    "hand": ("house", "house", "back"),
    "drop": ("house", "house", "back"),
}

# The least and the greatest number of each kind.
BOUNDS = {
    "house": (0, MOST_HOUSES - 1),
    "short": (LEAST_SHORT, MOST_SHORT),
    "steps": (0, MOST_STEPS),
    "back": (0, MOST_BACK),
}


def is_part(kind, value):
    """Whether a value is what may stand at a place of its kind in an event."""
    if kind == "lot":
        return is_lot(value, MOST_KEPT)
    least, most = BOUNDS[kind]
    return is_within(value, least, most)


def is_any_event(value):
    """Whether any value is an event of some net."""
    if not is_list(value) or len(value) == 0 or not isinstance(value[0], str) or value[0] not in EVENTS:
        return False
    kinds = EVENTS[value[0]]
    if len(value) != 1 + len(kinds) or not all([is_part(kind, part) for kind, part in zip(kinds, value[1:])]):
        return False
    return not is_on_line(value) or value[1] != value[2]


def is_on_line(event):
    """Whether an event comes to a line, not to a house."""
    return event[0] in ("hand", "drop")


def fits(net, event):
    """Whether the houses of an event are some of the net's, and tied if it comes to a line."""
    if is_on_line(event):
        return (min(event[1], event[2]), max(event[1], event[2])) in net.ties
    return event[1] < net.houses


def is_event(net, value):
    """Whether any value is an event of a net."""
    check_net(net)
    return is_any_event(value) and fits(net, value)


class Weather:
    """A list of events, which come in their order."""

    def __init__(self, events):
        if not is_list(events) or not 1 <= len(events) <= MOST_EVENTS:
            raise BadEvent("events")
        if not all([is_any_event(event) for event in events]):
            raise BadEvent("events")
        self.events = fixed(events)

    def __eq__(self, other):
        return isinstance(other, Weather) and self.events == other.events

    def __len__(self):
        return len(self.events)

    def __str__(self):
        return " / ".join([event_text(event) for event in self.events])

    @staticmethod
    def read(text):
        """The weather whose text this is."""
        reader = Reader(text)
        events = [read_event(reader)]
        # Behind the last event that a weather can have no bar can stand.
        while not reader.ended() and len(events) < MOST_EVENTS:
            reader.take_word("/")
            events.append(read_event(reader))
        reader.close()
        return Weather(events)


def event_text(event):
    """The text of an event: its word and its integers."""
    numbers = [event[1], *event[2]] if event[0] == "cut" else event[1:]
    return " ".join([event[0], *[str(number) for number in numbers]])


def read_event(reader):
    """The event that stands next in a text."""
    word = reader.peek()
    if word not in EVENTS:
        reader.refuse()
    reader.take_word(word)
    if word == "cut":
        house = reader.take_number(0, MOST_HOUSES - 1)
        return (word, house, read_lot(reader))
    parts = [word]
    for kind in EVENTS[word]:
        # A line leads to another house.
        if kind == "house" and reader.peek() == str(parts[-1]):
            reader.refuse()
        least, most = BOUNDS[kind]
        parts.append(reader.take_number(least, most))
    return tuple(parts)


def read_lot(reader):
    """The numbers that are kept in a cut, up to the bar or the end."""
    kept = []
    least = 0
    while reader.peek() not in (None, "/"):
        kept.append(reader.take_number(least, MOST_KEPT - 1))
        least = kept[-1] + 1
    return tuple(kept)
