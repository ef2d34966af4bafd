import random
import unittest

from fairweather.calm import calm_screens
from fairweather.errors import BadNet, BadNumber
from fairweather.falls import last_rounds, wave
from fairweather.nets import Net
from fairweather.programs import Program
from fairweather.sweeps import sweep
from fairweather.weathers import Weather, is_event
from fairweather.worlds import World
from tests.helpers import STRANGE, Raising, nested
from tests.making import heavy_body
from tests.storming import ADDS, ALONE, PAIR, ROW, SAYS, STAR, all_nets, some_event, some_net, told_distance

NOTHING = Program([], [])
FULL = Net(6, [(one, other) for other in range(6) for one in range(other)])
LONG = Net(6, [(0, 1), (1, 2), (2, 3), (3, 4), (4, 5)])
SHOWS = Program([], [("show", ("done",))])


class LastRounds(Raising, unittest.TestCase):
    def test_nets(self):
        source = random.Random(141)
        nets = [net for houses in range(1, 5) for net in all_nets(houses)] + [some_net(source, 5) for _ in range(40)]
        for net in nets + [some_net(source, 6) for _ in range(40)] + [FULL, LONG, STAR]:
            for house in range(net.houses):
                rounds = source.choice((0, 1, 2, 17, 30))
                told = tuple(rounds + told_distance(net, house, other) for other in range(net.houses))
                self.assertEqual(last_rounds(net, house, rounds), told)

    def check_refused(self, function):
        for value in STRANGE + [0, 3, "1", (), nested(30)]:
            self.raises(BadNet, {"part": "net"}, function, value, 0, 0)
        for value in STRANGE + [-1, 3, 10 ** 30, (0,)]:
            self.raises(BadNumber, {"part": "house"}, function, ROW, value, 0)
        for value in STRANGE + [-1, 31, 10 ** 30, (0,)]:
            self.raises(BadNumber, {"part": "rounds"}, function, ROW, 0, value)
        wrong = [(0, None, BadNet, {"part": "net"}), (1, 3, BadNumber, {"part": "house"}), (2, -1, BadNumber, {"part": "rounds"})]
        self.raises_in_order(function, [ROW, 0, 0], wrong)

    def test_refused(self):
        self.check_refused(last_rounds)
        self.check_refused(wave)
        self.assertEqual(last_rounds(rounds=4, house=0, net=ROW), (4, 5, 6))
        self.assertEqual(wave(rounds=0, house=0, net=ALONE).events, (("fall", 0),))


class Waves(unittest.TestCase):
    def check_wave(self, program, net, m, s, house, rounds):
        weather = wave(net, house, rounds)
        self.assertIs(type(weather), Weather)
        self.assertTrue(all(is_event(net, event) for event in weather.events))
        self.assertEqual(weather, wave(net, house, rounds))
        world = World(program, net, m, s)
        world.run(weather)
        told = tuple(rounds + told_distance(net, house, other) for other in range(net.houses))
        self.assertEqual(world.fallen, tuple(other == house for other in range(net.houses)))
        self.assertEqual(world.done, told, (str(net), house, rounds))
        for given in (0, 5):
            world.run(sweep(net, given))
            self.assertEqual(world.done, told)
        return world

    def test_small_nets(self):
        source = random.Random(142)
        for houses in range(1, 5):
            for net in all_nets(houses):
                for house in range(net.houses):
                    rounds = source.choice((0, 0, 1, 2, 3, 5))
                    self.check_wave(source.choice((NOTHING, SAYS, SHOWS, ADDS)), net, source.choice((3, 3, 4, 19, 64)),
                                    source.choice((0, 1, 8)), house, rounds)

    def test_large_nets(self):
        source = random.Random(143)
        for turn in range(40):
            net = some_net(source, source.choice((5, 6)))
            house = source.randrange(net.houses)
            self.check_wave(source.choice((NOTHING, SAYS, ADDS)), net, source.choice((3, 4, 64)), turn % 9, house, turn % 7)

    def test_all_numbers_of_rounds(self):
        for rounds in range(31):
            for net, house in ((ALONE, 0), (PAIR, 1), (ROW, rounds % 3)):
                world = self.check_wave(SAYS, net, 3 + rounds % 2, rounds % 9, house, rounds)
                self.assertEqual(world.screens, calm_screens(SAYS, net, world.inputs))

    def test_most_events(self):
        for net in (FULL, LONG, STAR):
            for house in range(6):
                self.assertLessEqual(len(wave(net, house, 30)), 2000)
            self.check_wave(ADDS, net, 3, 0, 0, 30)

    def test_heavy_programs(self):
        for net in (ALONE, PAIR, ROW):
            self.check_wave(Program([], heavy_body(1000)), net, 3, 0, 0, 2)

    def test_no_weather_brings_anybody_on(self):
        source = random.Random(144)
        for _ in range(15):
            net, s = some_net(source), source.choice((0, 1, 2, 8))
            house, rounds = source.randrange(net.houses), source.randrange(5)
            world = self.check_wave(ADDS, net, 2 * s + 3, s, house, rounds)
            told = world.done
            for _ in range(100):
                world.do(some_event(source, net, 0))
            self.assertEqual(world.done, told)
            self.assertEqual(world.fallen.count(True), 1)


if __name__ == "__main__":
    unittest.main()
