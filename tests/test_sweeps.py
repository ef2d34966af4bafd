import random
import unittest

from fairweather.calm import calm_screens, is_beginning
from fairweather.errors import BadNet, BadNumber, BadProgram
from fairweather.programs import Program
from fairweather.sweeps import shows_each_round, sweep
from fairweather.weathers import Weather
from fairweather.worlds import World
from tests.helpers import STRANGE, Raising, nested
from tests.making import ENDS
from tests.storming import ADDS, ALONE, COUNTS, NETS, PAIR, SAYS, TALK, all_nets, some_event, some_net

LEAST, MOST = -2147483648, 2147483647
QUIET = Program.read("cells n 0 at 0 round each at do say n to at end n := ( n + 1 ) end")


class Sweeps(Raising, unittest.TestCase):
    def told_sweep(self, net, given):
        """The events of a sweep, sorted out of all pairs of houses."""
        beats = [("beat", house, given) for house in range(net.houses)]
        tied = [(one, other) for one in range(6) for other in range(6) if (min(one, other), max(one, other)) in net.ties]
        return tuple(beats + beats + [("hand", one, other, 0) for one, other in sorted(tied)] + beats)

    def test_events_in_their_order(self):
        for houses in range(1, 5):
            for net in all_nets(houses):
                weather = sweep(net, houses)
                self.assertIs(type(weather), Weather)
                self.assertEqual(weather.events, self.told_sweep(net, houses))
        source = random.Random(131)
        for given in ENDS:
            for houses in (5, 6):
                net = some_net(source, houses)
                self.assertEqual(sweep(net, given).events, self.told_sweep(net, given))
                self.assertEqual(Weather.read(str(sweep(net, given))), sweep(net, given))

    def test_refused(self):
        for value in STRANGE + [0, 3, "1", (), nested(30)]:
            self.raises(BadNet, {"part": "net"}, sweep, value, 0)
        for value in STRANGE + [LEAST - 1, MOST + 1, 10 ** 30, (0,), [0]]:
            self.raises(BadNumber, {"part": "given"}, sweep, PAIR, value)
        self.raises_in_order(sweep, [PAIR, 0], [(0, None, BadNet, {"part": "net"}), (1, None, BadNumber, {"part": "given"})])
        self.assertEqual(len(sweep(given=0, net=ALONE)), 3)


class ShowsEachRound(Raising, unittest.TestCase):
    def test_programs(self):
        for text, told in (("cells round end", False), ("cells round show 1 end", True), ("cells round say 1 to 0 show 1 end", True),
                           ("cells round if 1 then show 1 else show 2 end end", False), ("cells a 0 round a := 1 end", False),
                           ("cells round times 9 do show 1 end end", False), ("cells a 0 round each a do show 1 end end", False),
                           ("cells round times 0 do show 1 end show 1 end", True), ("cells round show 1 show 2 end", True),
                           ("cells a 0 round a := 1 say a to a if a then show a end end", False)):
            self.assertIs(shows_each_round(Program.read(text)), told, text)

    def test_refused(self):
        for value in STRANGE + [0, "cells round end", (), [("show", ("me",))], nested(30)]:
            self.raises(BadProgram, {"part": "program"}, shows_each_round, value)
        self.assertIs(shows_each_round(program=TALK), True)


class FairWeather(unittest.TestCase):
    def check_sweeps(self, world):
        """Each sweep brings the least number on; in as many sweeps as houses each house does a round."""
        for _ in range(2):
            before, screens = world.done, world.screens
            for _ in range(world.net.houses):
                least = min(world.done)
                world.run(sweep(world.net, 7))
                self.assertGreaterEqual(min(world.done), least + 1)
            for house in range(world.net.houses):
                self.assertGreater(world.done[house], before[house])
                grown = len(world.screens[house]) > len(screens[house])
                self.assertTrue(grown or not shows_each_round(world.program))
        for screen, calm in zip(world.screens, calm_screens(world.program, world.net, world.inputs)):
            self.assertTrue(is_beginning(screen, calm))

    def test_behind_storms(self):
        source = random.Random(132)
        for _ in range(60):
            net, s = source.choice((source.choice(NETS), some_net(source))), source.choice((0, 1, 2, 8))
            program = source.choice((ADDS, SAYS, TALK, COUNTS, QUIET))
            world = World(program, net, min(64, 2 * s + 3 + source.choice((0, 0, 1, 40))), s)
            for _ in range(source.randrange(150)):
                world.do(some_event(source, net, 0, 0.2))
            self.check_sweeps(world)

    def test_behind_a_part_of_a_beat(self):
        source = random.Random(133)
        for many in range(0, 700, 9):
            world = World(ADDS, PAIR, 3, 0)
            world.run(Weather([("beat", 1, 1), ("beat", 1, 1), ("hand", 1, 0, 0), ("steps", 0, many, 1),
                               ("cut", source.randrange(2), tuple(source.sample(range(9), 1)))]))
            self.check_sweeps(world)

    def test_newest_letters_alone_with_numbers_that_are_too_small(self):
        # Where letters are always handed out as the newest ones, 3 is enough.
        source = random.Random(134)
        for _ in range(20):
            net = some_net(source)
            world = World(ADDS, net, 3, 8)
            for _ in range(80):
                event = some_event(source, net, 0)
                world.do((*event[:3], 0) if event[0] == "hand" else event)
            self.check_sweeps(world)


if __name__ == "__main__":
    unittest.main()
