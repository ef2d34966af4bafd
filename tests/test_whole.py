"""What the document promises over the whole program: programs in storms, and what no storm changes."""

import random
import unittest

from fairweather.calm import calm_screens, is_beginning
from fairweather.check_runs import shows_followed
from fairweather.computers import Computer
from fairweather.desk import Desk
from fairweather.falls import last_rounds
from fairweather.followed import followed
from fairweather.halves import first_disk
from fairweather.houses import house_code
from fairweather.library import echo, leader, routes, tally, tree
from fairweather.meanings import spread
from fairweather.nets import Net
from fairweather.orders import lockstep, together
from fairweather.pictures import picture
from fairweather.programs import Program
from fairweather.shorter import shorter
from fairweather.sweeps import sweep
from fairweather.weathers import Weather
from fairweather.worlds import World
from tests.storming import ADDS, NETS, PAIR, ROW, SAYS, look, some_event, some_net, some_program

# Each with a program that is written otherwise, and shows the same in any net.
OTHERWISE = [
    (routes(2), "cells d -1 p 0 round each p do if ( heard p and ( d = -1 ) ) then d := heard p end end if ( me = 2 ) then "
                "d := 0 end each p do say ( 1 + d ) to p end show d end"),
    (tree(1), "cells d -1 p 0 up -1 round if not ( me = 1 ) then p := many times 5 do p := ( p - 1 ) if ( not ( 0 < d ) and "
              "heard p ) then up := p end end d := -1 each p do if heard p then d := heard p end end else d := 0 end if "
              "( ( 0 < d ) or ( me = 1 ) ) then each p do say ( d + 1 ) to p end end show up end"),
    (leader(), "cells top -2147483648 p 0 k 0 round if k then each p do if not ( heard p < ( top + 1 ) ) then if ( top < heard p ) "
               "then top := heard p end end end else top := input end k := 1 each p do say top to p end show top end"),
    (echo(), "cells p 0 word 0 round word := input each p do say word to p end p := 0 times 5 do if ( p < many ) then "
             "show heard p end p := ( p + 1 ) end end"),
]


def some_inputs(source, net):
    return [[source.randrange(-3, 4) for _ in range(source.randrange(12))] for _ in range(net.houses)]


class InStorms(unittest.TestCase):
    def storm(self, source, program, net, events=120):
        """A world of right numbers behind a storm; behind each part of it nothing has gone wrong."""
        s = source.choice((0, 1, 2, 8))
        world = World(program, net, min(64, 2 * s + 3 + source.choice((0, 0, 1, 40))), s)
        for turn in range(events):
            world.do(some_event(source, net, 0.001, 0.15))
            if turn % 8 == 0:
                self.check_world(world)
        for _ in range(3):
            world.run(sweep(net, source.randrange(-1, 2)))
        self.check_world(world)
        return world

    def check_world(self, world):
        for screen, calm in zip(world.screens, calm_screens(world.program, world.net, world.inputs)):
            self.assertTrue(is_beginning(screen, calm))
        self.assertTrue(followed(world) and shows_followed(world, followed(world)) and spread(world))

    def test_the_library(self):
        source = random.Random(211)
        for _ in range(4):
            for program in (routes(source.randrange(6)), tree(source.randrange(6)), leader(), tally(), echo()):
                self.storm(source, program, some_net(source))

    def test_orders(self):
        source = random.Random(212)
        for _ in range(10):
            net = some_net(source)
            world = self.storm(source, together(net, source.randrange(net.houses)), net)
            for screen in world.screens:
                self.assertEqual(sorted(screen), list(screen))
                for other in world.screens:
                    self.assertTrue(all(here == there for here, there in zip(screen, other)))

    def test_games(self):
        source = random.Random(213)
        for _ in range(12):
            net = some_net(source, source.randrange(2, 7))
            world = self.storm(source, lockstep(net, *source.sample(range(net.houses), 2)), net)
            longest = max(world.screens, key=len)
            for screen in world.screens:
                # No two screens show unlike boards at one place.
                self.assertEqual(screen, longest[:len(screen)])

    def test_any_programs(self):
        source = random.Random(214)
        for _ in range(12):
            self.storm(source, some_program(source), some_net(source))

    def test_falls_hold_the_others(self):
        source = random.Random(215)
        for _ in range(12):
            net = some_net(source, source.randrange(2, 7))
            world = self.storm(source, lockstep(net, 0, 1), net, 60)
            house = source.randrange(net.houses)
            if True in world.fallen or world.done[house] > 30:
                continue
            world.do(("fall", house))
            last = last_rounds(net, house, world.done[house])
            for _ in range(12):
                world.run(sweep(net, 1))
                self.assertTrue(all(done <= most for done, most in zip(world.done, last)))
            self.check_world(world)


class Otherwise(unittest.TestCase):
    def test_programs_written_otherwise(self):
        source = random.Random(216)
        for program, text in OTHERWISE:
            other = Program.read(text)
            self.assertFalse(program == other)
            for _ in range(40):
                net = some_net(source)
                inputs = some_inputs(source, net)
                self.assertEqual(calm_screens(program, net, inputs), calm_screens(other, net, inputs), text)

    def test_the_same_weather(self):
        # What a house does in a beat hangs on its words and showings alone, not on how many steps they take.
        source = random.Random(217)
        for program, text in OTHERWISE:
            for _ in range(4):
                net = some_net(source)
                world, other = World(program, net, 5, 1), World(Program.read(text), net, 5, 1)
                for _ in range(100):
                    event = some_event(source, net)
                    if event[0] not in ("steps", "cut"):
                        world.do(event)
                        other.do(event)
                self.assertEqual((world.screens, world.inputs, world.done), (other.screens, other.inputs, other.done))


def with_shorter_code(world):
    """A world like this new one, in whose houses shorter code does alike."""
    for house, site in enumerate(world.sites):
        code = house_code(world.program, world.net, house, world.m, world.left)
        site.computer = Computer(shorter(code), first_disk(world.program, world.net, house))
    return world


class ShorterCode(unittest.TestCase):
    def test_beat_by_beat(self):
        source = random.Random(218)
        for turn in range(30):
            net = source.choice(NETS)
            told = (some_program(source), net, source.choice((2, 3, 5)), source.choice((0, 1, 8)), source.choice((None, turn % 8)))
            world, other = World(*told), with_shorter_code(World(*told))
            for _ in range(60):
                event = some_event(source, net)
                if event[0] != "steps":
                    steps = world.do(event)
                    self.assertLessEqual(other.do(event), steps)
                    self.assertEqual(look(other), look(world))
            self.assertEqual(picture(other), picture(world))

    def test_cuts_within_beats(self):
        source = random.Random(219)
        for program in (ADDS, SAYS, leader(), lockstep(ROW, 0, 2)):
            for _ in range(6):
                world = with_shorter_code(World(program, ROW, 5, 1))
                for turn in range(100):
                    world.do(some_event(source, ROW, 0, 0.2))
                    if turn % 5 == 0:
                        self.assertTrue(followed(world))
                least = min(world.done)
                world.run(sweep(ROW, 0))
                self.assertGreater(min(world.done), least)


class Together(unittest.TestCase):
    def test_a_desk_and_a_world_of_texts(self):
        # Program, net and weather are read from their texts: all comes out the same.
        source = random.Random(220)
        for _ in range(10):
            program, net = some_program(source), some_net(source)
            events = [some_event(source, net, 0.01) for _ in range(60)]
            world, desk = World(Program.read(str(program)), Net.read(str(net)), 3, 0), Desk(program, net, 3)
            world.run(Weather.read(str(Weather(events))))
            for event in events:
                desk.told(str(Weather([event])))
            rows = [row.replace(" fallen", "") for row in picture(world)]
            for house in range(net.houses):
                for at, word, ask in ((0, "calm", "calm"), (1, "seen", "screen")):
                    answer = desk.told(f"{ask} {house}")
                    self.assertEqual(rows[2 * house + at], f"{word} {house}" + ("" if answer == "-" else " " + answer))
            self.assertEqual(desk.told("done"), " ".join(map(str, world.done)))

    def test_a_long_storm(self):
        source = random.Random(221)
        world, steps = World(leader(), NETS[5], 19, 8), 0
        while steps < 300000:
            steps += world.do(some_event(source, NETS[5], 0))
        self.assertTrue(followed(world) and spread(world))

    def test_many_rounds(self):
        world = World(SAYS, Net(1, []), 3, 0)
        for _ in range(1500):
            world.do(("beat", 0, 1))
        self.assertEqual(followed(world).inputs, ((1,) * 1500,))
        inputs = [[0] * 10000] * 2
        self.assertEqual(len(calm_screens(lockstep(PAIR, 0, 1), PAIR, inputs)[0]), 20000)


if __name__ == "__main__":
    unittest.main()
