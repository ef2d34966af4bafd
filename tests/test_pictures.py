import random
import unittest

from fairweather.calm import calm_screens
from fairweather.errors import BadEvent, BadNet, BadNumber, BadProgram, BadWorld, Misfit
from fairweather.meanings import trail
from fairweather.pictures import picture, track
from fairweather.weathers import Weather
from fairweather.worlds import World
from tests.helpers import STRANGE, Raising, nested
from tests.storming import ADDS, ALONE, COUNTS, LEFT, NETS, PAIR, ROW, TALK, look, some_event, some_program


def told_picture(world):
    """The rows of a picture, item by item."""
    rows = []
    for house in range(world.net.houses):
        calm = calm_screens(world.program, world.net, world.inputs)[house]
        rows.append(("calm", house, *calm))
        rows.append(("seen", house, *world.screens[house]) + (("fallen",) if world.fallen[house] else ()))
    ways = sorted(world.net.ties + tuple((other, one) for one, other in world.net.ties))
    for one, other in ways:
        row = ("line", one, other)
        for letter, times in world.line_of(one, other):
            row += ("/", *letter, times)
        rows.append(row)
    return tuple(" ".join(map(str, row)) for row in rows)


class Pictures(Raising, unittest.TestCase):
    def check_picture(self, world):
        before = look(world)
        rows = picture(world)
        self.assertIs(type(rows), tuple)
        self.assertEqual(rows, told_picture(world))
        self.assertEqual(look(world), before)
        return rows

    def test_new_worlds(self):
        self.assertEqual(self.check_picture(World(ADDS, ALONE, 3, 0)), ("calm 0", "seen 0"))
        self.assertEqual(self.check_picture(World(ADDS, ROW, 3, 0))[4:], ("calm 2", "seen 2", "line 0 1", "line 1 0", "line 1 2", "line 2 1"))
        for net in NETS:
            self.assertEqual(len(self.check_picture(World(ADDS, net, 3, 0))), 2 * net.houses + 2 * len(net.ties))

    def test_storms(self):
        source = random.Random(191)
        seen = set()
        for turn in range(90):
            net, left = source.choice(NETS), LEFT[turn % len(LEFT)]
            m, s = source.choice(((2, 0), (3, 0), (3, 2), (19, 8)))
            world = World(some_program(source), net, m, s, left)
            for _ in range(4):
                world.run(Weather([some_event(source, net, 0.01) for _ in range(25)]))
                rows = self.check_picture(world)
                seen |= {row.split(" ")[-1] for row in rows if row.endswith("fallen")}
                seen |= {"unlike" for calm, row in zip(rows[::2], rows[1::2]) if calm[4:] != row[4:] and calm[:4] == "calm"}
        self.assertEqual(seen, {"fallen", "unlike"})

    def test_numbers_below_0_and_overtaken_letters(self):
        world = World(TALK, PAIR, 4, 8)
        world.run(Weather.read("beat 0 -5 / beat 0 -2147483648 / hand 0 1 0 / hand 0 1 0 / beat 1 7 / beat 1 7 / fall 0"))
        self.assertEqual(self.check_picture(world), ("calm 0 0", "seen 0 0 fallen", "calm 1 0 -5", "seen 1 0 -5",
                                                     "line 0 1 / 0 0 0 2 / 1 -5 0 0", "line 1 0 / 0 0 0 0 / 1 7 0 0"))

    def test_refused(self):
        for value in STRANGE + [0, 3, "world", (), [ALONE], nested(30)]:
            self.raises(BadWorld, {"part": "world"}, picture, value)
        self.assertEqual(picture(world=World(TALK, ALONE, 3, 0)), ("calm 0", "seen 0"))


class Tracks(Raising, unittest.TestCase):
    def test_storms(self):
        source = random.Random(192)
        for turn in range(40):
            net = source.choice(NETS)
            told = (some_program(source), net, source.choice((2, 3, 19)), source.choice((0, 8)), LEFT[turn % len(LEFT)])
            weather = Weather([some_event(source, net, 0.01) for _ in range(60)])
            rows = track(*told, weather)
            self.assertIs(type(rows), tuple)
            kept = trail(*told, weather)
            self.assertEqual(rows, tuple(f"{Weather([event])} : {' '.join(map(str, done))}" for event, done in zip(weather.events, kept)))
            self.assertEqual(" / ".join(row.split(" : ")[0] for row in rows), str(weather))

    def test_each_kind_of_event(self):
        weather = Weather.read("beat 0 -5 / steps 0 9 1 / cut 0 / cut 0 1 2 / hand 0 1 99 / drop 1 0 0 / fall 1")
        self.assertEqual(track(COUNTS, PAIR, 3, 0, None, weather), (
            "beat 0 -5 : 1 0", "steps 0 9 1 : 1 0", "cut 0 : 1 0", "cut 0 1 2 : 1 0", "hand 0 1 99 : 1 0", "drop 1 0 0 : 1 0",
            "fall 1 : 1 0"))

    def test_refused(self):
        good = [TALK, PAIR, 3, 0, None, Weather.read("fall 0")]
        for value in STRANGE + [0, "fall 0", ("fall", 0), [("fall", 0)]]:
            self.raises(BadEvent, {"part": "weather"}, track, *good[:5], value)
        self.raises(Misfit, {"part": "weather"}, track, *good[:5], Weather.read("beat 0 5 / hand 1 2 0"))
        wrong = [(0, None, BadProgram, {"part": "program"}), (1, None, BadNet, {"part": "net"}), (2, 1, BadNumber, {"part": "m"}),
                 (3, 9, BadNumber, {"part": "s"}), (4, 8, BadNumber, {"part": "left"}), (5, (), BadEvent, {"part": "weather"})]
        self.raises_in_order(track, good, wrong)
        self.raises_in_order(track, good, [*wrong[:5], (5, Weather.read("fall 2"), Misfit, {"part": "weather"})])
        self.assertEqual(track(weather=good[5], left=7, s=8, m=64, net=PAIR, program=TALK), ("fall 0 : 0 0",))


if __name__ == "__main__":
    unittest.main()
