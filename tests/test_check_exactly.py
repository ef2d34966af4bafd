import random
import unittest

from fairweather.calm import calm_screens
from fairweather.check_exactly import shows_judged, shows_wave
from fairweather.errors import BadNet, BadNumber, BadProgram
from fairweather.exactly import Right, Still, Wrong, judged
from fairweather.falls import last_rounds, wave
from fairweather.followed import Followed, Parted, Strayed
from fairweather.papers import Denial, Paper
from fairweather.programs import Program
from fairweather.sweeps import sweep
from fairweather.weathers import Weather
from fairweather.worlds import World
from tests.helpers import STRANGE, Raising, nested
from tests.skies import Sky
from tests.storming import ADDS, ALONE, LEFT, NETS, PAIR, RING, ROW, SAYS, TALK, some_event, some_net
from tests.test_followed import stray
from tests.test_sweeps import QUIET

ECHO = Program([], [("say", ("short", 1), ("short", 0)), ("show", ("heard", ("short", 0)))])
LATE = Weather.read("beat 0 0 / beat 1 0 / hand 0 1 0 / beat 1 0")
DROPS = Weather.read("beat 0 0 / beat 1 0 / drop 0 1 0 / drop 0 1 0 / drop 1 0 0 / drop 1 0 0")


def sky_done(sky):
    """How many rounds each house of a sky has kept."""
    disks = [dict(computer.disk) for computer in sky.computers]
    return tuple(disk.get(100 if disk.get(0, 0) else 20, 0) for disk in disks)


def told_sweep(net):
    """The events of a sweep, given 0."""
    beats = [("beat", house, 0) for house in range(net.houses)]
    return beats + beats + [("hand", *tie, 0) for one, other in net.ties for tie in ((one, other), (other, one))] + beats


def told_wave(program, net, m, s, house, rounds, weather):
    """Whether a weather is a right wave, as another world tells."""
    sky, last = Sky(program, net, m, s), last_rounds(net, house, rounds)
    for event in weather.events:
        sky.do(event)
    if sky.fallen != [other == house for other in range(net.houses)] or sky_done(sky) != last:
        return False
    for event in told_sweep(net):
        sky.do(event)
    return sky_done(sky) == last


class Waves(Raising, unittest.TestCase):
    def changed(self, source, net, events):
        """Waves near one: with events left out, put in, or changed."""
        at = source.randrange(len(events))
        yield events[:at] + events[at + 1:] or events
        yield events[:at] + (some_event(source, net, 0.3),) + events[at:]
        yield events[:at] + (some_event(source, net, 0.3),) + events[at + 1:]
        yield events + (some_event(source, net, 0.3),)
        yield tuple(event for event in events if event[0] != "fall") or events
        yield (("fall", source.randrange(net.houses)),) + events
        yield events[::-1]

    def test_waves_and_those_near_them(self):
        source = random.Random(161)
        found = []
        for _ in range(25):
            net, s = source.choice((source.choice(NETS), some_net(source))), source.choice((0, 1, 8))
            house, rounds, program = source.randrange(net.houses), source.randrange(5), source.choice((SAYS, ADDS, ECHO))
            told = (program, net, source.choice((3, 3, 4, 2 * s + 3)), s, house, rounds)
            right = wave(net, house, rounds)
            self.assertIs(shows_wave(*told, right), True)
            for events in self.changed(source, net, right.events):
                value = shows_wave(*told, Weather(events))
                self.assertIs(value, told_wave(*told, Weather(events)))
                found.append(value)
        self.assertGreater(min(found.count(True), found.count(False)), 30)

    def test_other_houses_and_rounds(self):
        for net in NETS:
            for house in range(net.houses):
                for other in range(net.houses):
                    for rounds in (0, 1, 2, 3):
                        value = shows_wave(ADDS, net, 3, 0, other, rounds, wave(net, house, 2))
                        self.assertIs(value, (other, rounds) == (house, 2))

    def test_what_comes_then(self):
        for text, told in (("fall 0 / beat 1 0", True), ("beat 1 0 / fall 0", True), ("fall 0 / beat 1 0 / beat 1 0", True),
                           ("fall 0", False), ("beat 0 0 / fall 0 / beat 1 0 / beat 1 0", False), ("beat 1 0", False),
                           ("fall 0 / beat 1 0 / fall 1", False), ("fall 1 / beat 0 0", False)):
            self.assertIs(shows_wave(ADDS, PAIR, 3, 0, 0, 0, Weather.read(text)), told, text)

    def test_a_sweep_that_brings_somebody_on(self):
        # With 2 the last letter of house 0 is taken once more, for one that is two rounds ahead.
        for rounds in range(5):
            for s in (0, 8):
                world = World(ECHO, PAIR, 2, s)
                world.run(wave(PAIR, 0, rounds))
                self.assertEqual((world.done, world.fallen), ((rounds, rounds + 1), (True, False)))
                for m in (2, 3):
                    told = (ECHO, PAIR, m, s, 0, rounds)
                    value = shows_wave(*told, wave(PAIR, 0, rounds))
                    self.assertIs(value, told_wave(*told, wave(PAIR, 0, rounds)))
                    self.assertIs(value, m == 3 or rounds == 0)

    def test_values_of_other_kinds(self):
        for value in STRANGE + [0, "fall 0", ("fall", 0), [("fall", 0)], wave(ROW, 0, 0).events, nested(30), Right(3, 0),
                                Weather.read("fall 3"), Weather([*wave(ROW, 0, 0).events, ("hand", 0, 2, 0)]),
                                Weather([*wave(ROW, 0, 0).events, ("fall", 5)])]:
            self.assertIs(shows_wave(SAYS, ROW, 3, 0, 0, 0, value), False)

    def test_refused(self):
        good = [SAYS, ROW, 3, 0, 0, 2, wave(ROW, 0, 2)]
        kinds = [(BadProgram, "program", STRANGE + ["cells round end", 0]), (BadNet, "net", STRANGE + ["2 0 1", 0]),
                 (BadNumber, "m", STRANGE + [1, 65]), (BadNumber, "s", STRANGE + [-1, 9]), (BadNumber, "house", STRANGE + [-1, 3]),
                 (BadNumber, "rounds", STRANGE + [-1, 31])]
        for at, (kind, part, values) in enumerate(kinds):
            for value in values:
                self.raises(kind, {"part": part}, shows_wave, *good[:at], value, *good[at + 1:])
                self.raises(kind, {"part": part}, shows_wave, *good[:at], value, *good[at + 1:6], None)
        wrong = [(0, None, BadProgram, {"part": "program"}), (1, None, BadNet, {"part": "net"}), (2, 1, BadNumber, {"part": "m"}),
                 (3, 9, BadNumber, {"part": "s"}), (4, 3, BadNumber, {"part": "house"}), (5, 31, BadNumber, {"part": "rounds"})]
        self.raises_in_order(shows_wave, good, wrong)
        self.assertIs(shows_wave(value=wave(ROW, 0, 2), rounds=2, house=0, s=0, m=3, net=ROW, program=SAYS), True)


def told_judged(m, s, left, paper):
    """Whether a Wrong or a Still of right parts is right, as another world tells."""
    sky, house = Sky(paper.program, paper.net, m, s, left), paper.house
    for event in paper.weather.events:
        sky.do(event)
    if isinstance(paper, Wrong):
        return stray(sky.screens[house], calm_screens(paper.program, paper.net, sky.inputs)[house]) is not None
    if True in sky.fallen or not any(statement[0] == "show" for statement in paper.program.body):
        return False
    screen = sky.screens[house]
    for _ in range(paper.net.houses):
        for event in told_sweep(paper.net):
            sky.do(event)
    return sky.screens[house] == screen


class Papers(Raising, unittest.TestCase):
    def test_right(self):
        for s in range(9):
            for m in (2, 3, 2 * s + 2, 2 * s + 3, 2 * s + 4, 64):
                for left in LEFT:
                    told = left is None and m >= 2 * s + 3
                    self.assertIs(shows_judged(m, s, left, Right(m, s)), told)
                    for other in ((m + 1, s), (m, s + 1), (s, m), (m, None), (None, s), (str(m), s), (float(m), s), ((m,), s)):
                        self.assertIs(shows_judged(m, s, left, Right(*other)), False)
        self.assertIs(shows_judged(5, 1, None, Right(5, True)), False)
        self.assertIs(shows_judged(3, 0, None, Right(3, False)), False)
        self.assertIs(shows_judged(3, 0, None, Right(3, 0.0)), False)

    def test_papers_near_right_ones(self):
        source = random.Random(162)
        found = []
        for m, s, left in [(m, s, left) for m, s in ((2, 0), (3, 0), (4, 1), (6, 2), (64, 8)) for left in LEFT]:
            paper = judged(m, s, left)
            if isinstance(paper, Right):
                paper = judged(2, s, left)
            program, net, weather, house = paper.parts
            at = source.randrange(len(weather))
            weathers = [weather, *[Weather(events) for events in (
                weather.events[:at] + weather.events[at + 1:], weather.events + (some_event(source, net, 0.5),),
                weather.events[:at] + (some_event(source, net, 0.2),) + weather.events[at + 1:]) if events]]
            for kind in (Wrong, Still):
                for each in weathers:
                    for place in range(net.houses):
                        for written in (program, TALK, QUIET):
                            near = kind(written, net, each, place)
                            found.append(shows_judged(m, s, left, near))
                            self.assertIs(found[-1], told_judged(m, s, left, near))
        self.assertGreater(min(found.count(True), found.count(False)), 80)

    def test_the_same_storm_with_other_numbers(self):
        for s in range(9):
            for m in range(2, 2 * s + 3):
                paper = judged(m, s)
                for other in (m - 1, m + 1, 2 * s + 3, 64):
                    if other >= 2:
                        self.assertIs(shows_judged(other, s, None, paper), told_judged(other, s, None, paper))
                        self.assertFalse(other >= 2 * s + 3 and shows_judged(other, s, None, paper))

    def test_still(self):
        for left in LEFT:
            self.assertIs(shows_judged(9, 3, left, Still(ECHO, PAIR, DROPS, 0)), left == 5)
        self.assertIs(shows_judged(9, 3, 5, Still(ECHO, PAIR, DROPS, 1)), True)
        silent = Program([], [("say", ("short", 1), ("short", 0)), ("times", 1, [("show", ("short", 1))])])
        self.assertIs(shows_judged(9, 3, 5, Still(silent, PAIR, DROPS, 0)), False)
        for fall in (0, 1):
            self.assertIs(shows_judged(9, 3, 5, Still(ECHO, PAIR, Weather([*DROPS.events, ("fall", fall)]), 0)), False)
        self.assertIs(shows_judged(9, 3, None, Still(ECHO, PAIR, Weather.read("beat 0 0"), 0)), False)

    def test_as_many_sweeps_as_houses(self):
        # House 2 has gone on ahead as far as it can: two sweeps bring on the others alone.
        weather = Weather([event for event in wave(ROW, 0, 1).events if event[0] != "fall"] + [("cut", 0, ())])
        world = World(ECHO, ROW, 3, 0)
        world.run(weather)
        for done in ((1, 2, 3), (2, 2, 3), (3, 3, 3)):
            self.assertEqual(world.done, done)
            world.run(sweep(ROW, 0))
        self.assertGreater(world.done[2], 3)
        for house in range(3):
            self.assertIs(shows_judged(3, 0, None, Still(ECHO, ROW, weather, house)), False)

    def test_parts_of_all_kinds(self):
        good = [ECHO, PAIR, LATE, 1]
        self.assertIs(shows_judged(2, 0, None, Wrong(*good)), True)
        self.assertIs(shows_judged(2, 0, None, Wrong(house=1, weather=LATE, net=PAIR, program=ECHO)), True)
        for kind in (Wrong, Still):
            for at in range(4):
                for value in STRANGE + [-1, 2, (), nested(30), "cells round end", "2 0 1", str(LATE), LATE.events, good, 10 ** 30,
                                        Weather.read("fall 2"), Weather([*LATE.events, ("hand", 0, 2, 0)]), Right(2, 0), World]:
                    bent = good[:at] + [value] + good[at + 1:]
                    self.assertIs(shows_judged(2, 0, None, kind(*bent)), False)
        still = [ECHO, PAIR, DROPS, 0]
        self.assertIs(shows_judged(2, 0, 5, Still(*still)), True)
        for value in (False, 0.0, -1, 2, None, (0,)):
            self.assertIs(shows_judged(2, 0, 5, Still(*still[:3], value)), False)
        self.assertIs(shows_judged(2, 0, None, Wrong(ECHO, RING, LATE, 1)), told_judged(2, 0, None, Wrong(ECHO, RING, LATE, 1)))
        self.assertIs(shows_judged(2, 0, None, Wrong(ECHO, ALONE, LATE, 0)), False)

    def test_values_of_other_kinds(self):
        for value in STRANGE + [0, (), nested(30), "wrong", Paper("right", 3, 0), Denial("wrong", ECHO, PAIR, LATE, 1), Followed([[]]),
                                Strayed(3, 0), Parted(0), (3, 0), LATE, Right]:
            for m in (2, 3):
                self.assertIs(shows_judged(m, 0, None, value), False)

    def test_refused(self):
        for value in STRANGE + [1, 65, 10 ** 30, (3,)]:
            self.raises(BadNumber, {"part": "m"}, shows_judged, value, 0, None, Right(3, 0))
        for value in STRANGE + [-1, 9, 10 ** 30, (0,)]:
            self.raises(BadNumber, {"part": "s"}, shows_judged, 3, value, None, Right(3, 0))
        for value in STRANGE + [-1, 8, 10 ** 30, (0,)]:
            if value is not None:
                self.raises(BadNumber, {"part": "left"}, shows_judged, 3, 0, value, None)
        wrong = [(0, 1, BadNumber, {"part": "m"}), (1, 9, BadNumber, {"part": "s"}), (2, 8, BadNumber, {"part": "left"})]
        self.raises_in_order(shows_judged, [3, 0, None, None], wrong)
        self.assertIs(shows_judged(value=Right(3, 0), left=None, s=0, m=3), True)


if __name__ == "__main__":
    unittest.main()
