import random
import unittest

from fairweather.errors import BadEvent, BadNet, BadText
from fairweather.nets import Net
from fairweather.weathers import Weather, is_event
from tests.helpers import STRANGE, Raising, listed, nested, replaced
from tests.making import ENDS

LEAST, MOST = -2147483648, 2147483647
PAIR, ROW = Net(2, [(0, 1)]), Net(3, [(0, 1), (1, 2)])
STAR = Net(6, [(0, 1), (0, 2), (0, 3), (0, 4), (0, 5)])
RIGHT = [("beat", 0, 5), ("beat", 2, LEAST), ("beat", 1, MOST), ("steps", 1, 0, 5), ("steps", 2, 50000, LEAST), ("cut", 0, ()),
         ("cut", 1, (0,)), ("cut", 2, (0, 5, 99)), ("cut", 1, tuple(range(100))), ("fall", 0), ("fall", 2), ("hand", 0, 1, 0),
         ("hand", 2, 1, 99), ("drop", 1, 0, 7), ("drop", 1, 2, 99)]
# What cannot stand at a place of an event, whatever its net.
BENT = {"house": [-1, 6, 10 ** 30, (0,), [], "0"], "short": [LEAST - 1, MOST + 1, (0,), "0"], "steps": [-1, 50001, (0,), "0"],
        "back": [-1, 100, (0,), "0"],
        "lot": [0, "0", (100,), (-1,), (1, 0), (0, 0), (True,), ((0,),), (0, None), range(2), {0: 1}, tuple(range(101))]}
KINDS = {"beat": ("house", "short"), "steps": ("house", "steps", "short"), "cut": ("house", "lot"), "fall": ("house",),
         "hand": ("house", "house", "back"), "drop": ("house", "house", "back")}


def bent_events():
    """Events with one part that cannot stand, or one too few or too many."""
    for event in RIGHT:
        kinds = KINDS[event[0]]
        for at, kind in enumerate(kinds):
            for value in BENT[kind] + [each for each in STRANGE if kind != "lot" or each not in ((), [])]:
                yield replaced(event, (at + 1,), value)
        yield event[:-1]
        yield event + (0,)
        yield event + ((),)
        for word in ("Beat", "", "beat ", "hands", 0, None, ("beat",), b"beat", {}):
            yield (word,) + event[1:]


class Events(Raising, unittest.TestCase):
    def test_right_ones(self):
        for event in RIGHT:
            for value in (event, listed(event), [event[0], *event[1:]]):
                self.assertIs(is_event(ROW, value), True, value)
        self.assertIs(is_event(value=["fall", 5], net=STAR), True)

    def test_houses_of_the_net(self):
        for net in (Net(1, []), PAIR, ROW, STAR):
            for house in range(7):
                for event in (("beat", house, 0), ("steps", house, 1, 0), ("cut", house, ()), ("fall", house)):
                    self.assertIs(is_event(net, event), house < net.houses)
                for other in range(7):
                    tied = (house, other) in net.ties or (other, house) in net.ties
                    for word in ("hand", "drop"):
                        self.assertIs(is_event(net, (word, house, other, 3)), tied)

    def test_bent_ones(self):
        for value in bent_events():
            self.assertIs(is_event(ROW, value), False, value)
            self.assertIs(is_event(STAR, value), False, value)
        for value in STRANGE + [0, (), [], "fall", ("fall",), [("fall", 0)], (("fall", 0),), nested(30), Weather([("fall", 0)])]:
            self.assertIs(is_event(ROW, value), False, value)

    def test_refused(self):
        for value in STRANGE + [0, 3, "3 0 1 / 1 2", ((0, 1),)]:
            self.raises(BadNet, {"part": "net"}, is_event, value, ("fall", 0))
            self.raises(BadNet, {"part": "net"}, is_event, value, None)


class Weathers(Raising, unittest.TestCase):
    def test_events(self):
        weather = Weather(listed(RIGHT))
        self.assertEqual((weather.events, len(weather)), (tuple(RIGHT), len(RIGHT)))
        for event in weather.events:
            self.assertIs(type(event), tuple)
        self.assertIs(type(weather.events[5][2]), tuple)
        far = [("hand", 5, 0, 0), ("beat", 5, 0), ("drop", 3, 4, 0)]
        self.assertEqual(Weather(events=far).events, tuple(far))

    def test_what_is_changed_later_changes_nothing(self):
        kept = [0, 1]
        events = [["cut", 0, kept]]
        weather = Weather(events)
        kept.append(2)
        events[0][1] = 3
        events.append(["fall", 0])
        self.assertEqual(weather.events, (("cut", 0, (0, 1)),))

    def test_equality(self):
        self.assertIs(Weather(RIGHT) == Weather(listed(RIGHT)), True)
        self.assertIs(Weather(RIGHT) != Weather(listed(RIGHT)), False)
        for one, event in enumerate(RIGHT):
            for other, value in enumerate(RIGHT):
                self.assertIs(Weather([event]) == Weather([value]), one == other)
        for value in STRANGE + [(("fall", 0),), [("fall", 0)], "fall 0"]:
            self.assertIs(Weather([("fall", 0)]) == value, False)

    def test_refused(self):
        for value in STRANGE + [0, (), [], "fall 0", ("fall", 0), [()], [None], [[("fall", 0)]], [("fall", 0), ("fall", 6)],
                                [("hand", 1, 1, 0)], [("drop", 0, 0, 0)], nested(30), Weather([("fall", 0)])]:
            self.raises(BadEvent, {"part": "events"}, Weather, value)
        for event in bent_events():
            self.raises(BadEvent, {"part": "events"}, Weather, [event])
            self.raises(BadEvent, {"part": "events"}, Weather, [("fall", 0), event, ("fall", 0)])

    def test_how_many(self):
        self.assertEqual(len(Weather([("fall", 0)] * 2000)), 2000)
        self.raises(BadEvent, {"part": "events"}, Weather, [("fall", 0)] * 2001)


class TextsOfWeathers(Raising, unittest.TestCase):
    def refused(self, item, text):
        self.raises(BadText, {"item": item}, Weather.read, text)

    def test_texts(self):
        weather = Weather(RIGHT[:8] + RIGHT[9:12])
        text = ("beat 0 5 / beat 2 -2147483648 / beat 1 2147483647 / steps 1 0 5 / steps 2 50000 -2147483648 / cut 0 / cut 1 0 / "
                "cut 2 0 5 99 / fall 0 / fall 2 / hand 0 1 0")
        self.assertEqual(str(weather), text)
        self.assertEqual(Weather.read(text), weather)
        for events in (RIGHT, RIGHT[::-1], [RIGHT[8]] * 3, [("fall", 5)] * 2000, [("cut", 0, ())], [("cut", 0, ())] * 2):
            again = Weather.read(text=str(Weather(events)))
            self.assertIs(type(again), Weather)
            self.assertEqual(again.events, tuple(events))

    def test_no_strings(self):
        for value in STRANGE + [0, ["fall 0"], ("fall", 0), b"fall 0", Weather([("fall", 0)])]:
            if not isinstance(value, str):
                self.refused(0, value)

    def test_bent_texts(self):
        for text, item in (("", 0), (" ", 0), ("/", 0), ("storm", 0), ("fall", 1), ("fall ", 1), ("fall 0 ", 2), (" fall 0", 0),
                           ("fall 6", 1), ("fall -1", 1), ("fall 00", 1), ("fall 0 0", 2), ("fall 0 /", 3), ("fall 0 / ", 3),
                           ("fall 0 / /", 3), ("fall 0 fall 1", 2), ("beat 0", 2), ("beat 0 /", 2), ("beat 0 2147483648", 2),
                           ("beat 0 -0", 2), ("beat 0 1 1", 3), ("beat 6 1", 1), ("steps 0 50001 0", 2), ("steps 0 -1 0", 2),
                           ("steps 0 5", 3), ("steps 0 5 x", 3), ("steps 0 5 0 0", 4), ("cut", 1), ("cut /", 1), ("cut 0 /", 3),
                           ("cut 0 100", 2), ("cut 0 0 0", 3), ("cut 0 5 4", 3), ("cut 0 1 5 4", 4), ("cut 0 1 5 5", 4),
                           ("cut 6", 1), ("cut 6 1", 1), ("cut -1", 1),  ("cut 0 99 100", 3), ("cut 0 99 99", 3),
                           ("cut 0 1 2 x", 4), ("cut 0 1 2 fall 0", 4), ("cut 0 -1", 2), ("cut 0  1", 2), ("hand 0 0 0", 2),
                           ("hand 5 5 0", 2), ("hand 0 6 0", 2), ("hand 0 1", 3), ("hand 0 1 100", 3), ("hand 0 1 -1", 3),
                           ("hand 0 1 0 0", 4), ("drop 1 1 5", 2), ("drop 6 1 5", 1), ("drop 0 1 100", 3), ("hand 0 1 0 /", 5),
                           ("beat 0 " + "9" * 5000, 2), ("Fall 0", 0), ("fall\n0", 0), ("hand 0", 2), ("hand 0 /", 2)):
            self.refused(item, text)

    def test_no_bar_behind_2000_events(self):
        text = " / ".join(["fall 0"] * 2000)
        self.assertEqual(len(Weather.read(text)), 2000)
        for more in (" /", " / fall 0", " / storm", " fall 0", " 0"):
            self.refused(5999, text + more)
        text = " / ".join(["cut 0"] * 2000)
        self.assertEqual(len(Weather.read(text + " 1")), 2000)
        self.refused(5999, text + " /")

    def test_each_item_bent(self):
        source = random.Random(72)
        for _ in range(20):
            events = [source.choice(RIGHT[:8] + RIGHT[9:]) for _ in range(8)]
            places = []
            for event in events:
                numbers = event[1:2] + event[2] if event[0] == "cut" else event[1:]
                places += [(event[0], at, len(numbers)) for at in range(len(numbers) + 1)] + [("/", 0, 0)]
            places.pop()
            items = str(Weather(events)).split(" ")
            self.assertEqual(len(items), len(places))
            for item, (word, at, many) in enumerate(places):
                for bent in ("?", "", "00", "-2147483649", "+1", "fall 0" if at else "x"):
                    self.refused(item, " ".join(items[:item] + [bent] + items[item + 1:]))
                ended = word == "/" or (word == "cut" and at > 1)
                if not ended and item:
                    self.refused(item, " ".join(items[:item]))
                elif item:
                    self.assertTrue(Weather.read(" ".join(items[:item])))

    def test_at_random(self):
        source = random.Random(73)
        for _ in range(100):
            events = []
            for _ in range(source.randrange(1, 20)):
                house, other = source.sample(range(6), 2)
                events.append(source.choice((("beat", house, source.choice(ENDS)), ("fall", house),
                                             ("steps", house, source.randrange(50001), source.choice(ENDS)),
                                             ("cut", house, tuple(sorted(source.sample(range(100), source.randrange(5))))),
                                             ("hand", house, other, source.randrange(100)), ("drop", house, other, 0))))
            self.assertEqual(Weather.read(str(Weather(events))), Weather(events))


if __name__ == "__main__":
    unittest.main()
