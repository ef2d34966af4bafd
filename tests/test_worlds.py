import random
import unittest

from fairweather.calm import calm_run, calm_screens, is_beginning
from fairweather.codes import Code
from fairweather.computers import Computer
from fairweather.errors import BadEvent, BadNet, BadNumber, BadProgram, Misfit
from fairweather.halves import first_disk, half_pairs, standing_in
from fairweather.nets import Net, distance
from fairweather.programs import Program
from fairweather.standings import Standing
from fairweather.weathers import Weather
from fairweather.worlds import World
from tests.helpers import STRANGE, Raising, listed, nested
from tests.making import ENDS, heavy_body
from tests.skies import Sky
from tests.storming import (ADDS, ALONE, COUNTS, LEFT, NETS, PAIR, RING, ROW, SAYS, STAR, TALK, look, some_event,
                            some_program)

LEAST, MOST = -2147483648, 2147483647
class Made(Raising, unittest.TestCase):
    def test_a_new_world(self):
        for net in NETS:
            world = World(ADDS, net, 5, 1)
            many = net.houses
            self.assertEqual((world.program, world.net, world.m, world.s, world.left), (ADDS, net, 5, 1, None))
            self.assertEqual((world.screens, world.inputs, world.done, world.fallen),
                             (((),) * many, ((),) * many, (0,) * many, (False,) * many))
            for house in range(many):
                pairs = tuple(pair for pair in first_disk(ADDS, net, house) if pair[1])
                self.assertEqual((world.disk_of(house), world.waiting_of(house)), (pairs, ()))
            for one, other in net.ties:
                self.assertEqual((world.line_of(one, other), world.line_of(other, one)), ((), ()))
        for left in LEFT:
            self.assertEqual(World(left=left, s=8, m=64, net=PAIR, program=TALK).left, left)

    def test_the_kinds_of_its_parts(self):
        world = World(ADDS, PAIR, 3, 0)
        for event in (("beat", 0, 5), ("hand", 0, 1, 0), ("beat", 1, 5), ("fall", 1)):
            world.do(event)
            for parts in (world.screens, world.inputs, world.done, world.fallen, *world.screens, *world.inputs):
                self.assertIs(type(parts), tuple)
            self.assertTrue(all(type(value) is int for value in world.done))
            self.assertTrue(all(type(value) is bool for value in world.fallen))

    def test_refused(self):
        for value in STRANGE + [0, "cells round end"]:
            self.raises(BadProgram, {"part": "program"}, World, value, PAIR, 3, 0)
            self.raises(BadNet, {"part": "net"}, World, TALK, value, 3, 0)
        for value in STRANGE + [1, 0, 65, -3, 10 ** 30, (3,)]:
            self.raises(BadNumber, {"part": "m"}, World, TALK, PAIR, value, 0)
        for value in STRANGE + [-1, 9, 10 ** 30, (0,)]:
            self.raises(BadNumber, {"part": "s"}, World, TALK, PAIR, 3, value)
        for value in STRANGE + [-1, 8, 10 ** 30, (0,)]:
            if value is not None:
                self.raises(BadNumber, {"part": "left"}, World, TALK, PAIR, 3, 0, value)

    def test_the_order_of_errors(self):
        wrong = [(0, None, BadProgram, {"part": "program"}), (1, None, BadNet, {"part": "net"}), (2, 1, BadNumber, {"part": "m"}),
                 (3, 9, BadNumber, {"part": "s"}), (4, 8, BadNumber, {"part": "left"})]
        self.raises_in_order(World, [TALK, PAIR, 3, 0, None], wrong)


class Events(Raising, unittest.TestCase):
    def test_beats(self):
        world = World(COUNTS, ALONE, 3, 0)
        for turn in range(1, 6):
            self.assertGreater(world.do(("beat", 0, 10)), 20)
            self.assertEqual((world.done, world.inputs), ((turn,), ((10,) * turn,)))
            self.assertEqual(world.screens, (tuple(3 + 10 * at for at in range(1, turn + 1)),))

    def test_how_many_steps_a_beat_takes(self):
        for program in (COUNTS, Program([], heavy_body(1000)), Program([], [])):
            world, other = World(program, ALONE, 3, 0), World(program, ALONE, 3, 0)
            for turn in range(3):
                many = world.do(["beat", 0, turn])
                self.assertEqual([other.do(("steps", 0, each, turn)) for each in (0, many - 1, 1)], [0, many - 1, 1])
                self.assertEqual(look(world), look(other))

    def test_steps(self):
        world, other = World(COUNTS, ALONE, 3, 0), World(COUNTS, ALONE, 3, 0)
        before = look(world)
        self.assertEqual(world.do(("steps", 0, 0, 7)), 0)
        self.assertEqual(look(world), before)
        beats = [other.do(("beat", 0, 7)) for _ in range(4)]
        self.assertEqual(world.do(("steps", 0, sum(beats), 7)), sum(beats))
        self.assertEqual(look(world), look(other))
        self.assertEqual(World(COUNTS, ALONE, 3, 0).do(("steps", 0, 50000, LEAST)), 50000)

    def test_a_beat_goes_on_where_steps_ended(self):
        world = World(COUNTS, ALONE, 3, 0)
        whole = World(COUNTS, ALONE, 3, 0).do(("beat", 0, 7))
        for many in (1, 5, whole - 1):
            world = World(COUNTS, ALONE, 3, 0)
            world.do(("steps", 0, many, 7))
            self.assertEqual(world.do(("beat", 0, 7)), whole - many)
            self.assertEqual((world.done, world.screens), ((1,), ((10,),)))

    def test_cuts(self):
        whole = World(COUNTS, ALONE, 3, 0).do(("beat", 0, 7))
        for many in range(whole):
            for kept in ((), (0,), tuple(range(100)), (3, 50, 99)):
                world = World(COUNTS, ALONE, 3, 0)
                world.do(("steps", 0, many, 7))
                waiting = world.waiting_of(0)
                disk = {**dict(world.disk_of(0)), **dict(waiting[at] for at in kept if at < len(waiting))}
                self.assertEqual(world.do(("cut", 0, kept)), 0)
                self.assertEqual(world.disk_of(0), tuple(sorted((at, short) for at, short in disk.items() if short)))
                self.assertEqual(world.waiting_of(0), ())
                self.assertEqual(world.done[0], len(world.inputs[0]))
                self.assertEqual(world.inputs[0], (7,) * world.done[0])
                done = world.done[0]
                world.do(("beat", 0, 5))
                self.assertEqual(world.screens, ((10, 15) if done else (8,),))
                self.assertEqual(world.inputs, ((7, 5) if done else (5,),))

    def test_lots_with_numbers_of_nothing_that_waits(self):
        world = World(COUNTS, ALONE, 3, 0)
        world.do(("beat", 0, 7))
        before = look(world)
        for kept in ((), (0,), (5, 99), tuple(range(100))):
            world.do(["cut", 0, kept])
            self.assertEqual(look(world), before)

    def test_falls(self):
        world = World(SAYS, ROW, 3, 8)
        world.run(Weather([("beat", 1, 0), ("beat", 1, 0), ("steps", 0, 30, 5)]))
        self.assertEqual(world.do(("fall", 0)), 0)
        self.assertEqual(world.fallen, (True, False, False))
        before = look(world)
        for event in (("beat", 0, 5), ("steps", 0, 100, 5), ("cut", 0, ()), ("fall", 0), ("steps", 0, 0, 5)):
            self.assertEqual(world.do(event), 0)
            self.assertEqual(look(world), before)
        self.assertEqual([pair[1] for pair in world.line_of(1, 0)], [0, 0])
        world.do(("hand", 1, 0, 0))
        self.assertEqual([pair[1] for pair in world.line_of(1, 0)], [1, 0])
        self.assertEqual(world.done, (0, 1, 0))
        self.assertGreater(world.do(("beat", 2, 0)), 0)

    def test_letters_handed_out(self):
        world = World(SAYS, PAIR, 5, 1)
        for _ in range(2):
            world.do(("beat", 0, 0))
        self.assertEqual(world.line_of(0, 1), (((0, 0, 0), 0), ((1, 1, 0), 0)))
        self.assertEqual([world.do(("hand", 0, 1, back)) for back in (0, 5, 99)], [0, 0, 0])
        self.assertEqual(world.line_of(0, 1), (((0, 0, 0), 1), ((1, 1, 0), 0)))
        world.do(("beat", 1, 0))
        world.do(("beat", 1, 0))
        self.assertEqual((world.screens, world.done), (((0,), (0, 1)), (1, 2)))

    def test_a_letter_takes_the_place_of_another_one(self):
        world = World(SAYS, PAIR, 5, 8)
        for _ in range(2):
            world.do(("beat", 0, 0))
        world.run(Weather([("beat", 1, 0), ("hand", 0, 1, 0), ("hand", 0, 1, 1), ("beat", 1, 0)]))
        self.assertEqual(world.done, (1, 1))
        world.run(Weather([("hand", 0, 1, 1), ("hand", 0, 1, 0), ("beat", 1, 0)]))
        self.assertEqual(world.done, (1, 2))

    def test_letters_dropped(self):
        world = World(SAYS, PAIR, 3, 0)
        for _ in range(3):
            world.do(("beat", 1, 0))
        self.assertEqual(world.do(("drop", 1, 0, 1)), 0)
        self.assertEqual(world.line_of(1, 0), (((0, 0, 0), 0), ((1, 1, 0), 0)))
        world.do(("drop", 1, 0, 2))
        world.do(("drop", 0, 1, 0))
        self.assertEqual((len(world.line_of(1, 0)), world.line_of(0, 1)), (2, ()))
        world.do(("drop", 1, 0, 0))
        self.assertEqual(world.line_of(1, 0), (((0, 0, 0), 0),))

    def test_which_place_a_letter_comes_to(self):
        tells = Program([("at", 0)], [("each", "at", [("say", ("+", ("*", ("me",), ("short", 10)), ("name", "at")), ("name", "at"))]),
                                      ("each", "at", [("show", ("heard", ("name", "at")))])])
        for net in NETS[1:]:
            world = World(tells, net, 3, 0)
            for turn in range(2):
                for house in range(net.houses):
                    world.do(("beat", house, 0))
                    world.do(("beat", house, 0))
                for one, other in net.ties:
                    world.do(("hand", one, other, 0))
                    world.do(("hand", other, one, 0))
            for house in range(net.houses):
                world.do(("beat", house, 0))
            self.assertEqual(world.screens, calm_screens(tells, net, world.inputs))
            self.assertGreaterEqual(min(world.done), 2)

    def test_refused(self):
        world = World(SAYS, ROW, 3, 0)
        world.run(Weather([("beat", 0, 1), ("beat", 1, 1), ("steps", 1, 30, 1), ("hand", 0, 1, 0)]))
        before = look(world)
        for value in STRANGE + [0, (), "fall 0", ("fall", 3), ("beat", 0, MOST + 1), ("beat", 3, 0), ("hand", 0, 2, 0), ("fall",),
                                ("hand", 0, 0, 0), ("drop", 0, 1, 100), ("steps", 0, 50001, 0), ("cut", 0, (1, 1)), ("cut", 0, 1),
                                ("cut", 0, (100,)), ("cut", 0, (-1,)), [("fall", 0)], Weather([("fall", 0)]), nested(30)]:
            self.raises(BadEvent, {"part": "event"}, world.do, value)
        for value in STRANGE + [0, (), ("fall", 0), [("fall", 0)], "fall 0", nested(30)]:
            self.raises(BadEvent, {"part": "weather"}, world.run, value)
        for event in (("fall", 3), ("beat", 5, 0), ("hand", 0, 2, 0), ("drop", 2, 0, 0), ("cut", 3, ()), ("steps", 4, 1, 1)):
            self.raises(Misfit, {"part": "weather"}, world.run, Weather([event]))
            self.raises(Misfit, {"part": "weather"}, world.run, Weather([("beat", 0, 1), ("fall", 1), event]))
        for value in STRANGE + [-1, 3, (0,)]:
            self.raises(BadNumber, {"part": "one"}, world.line_of, value, 0)
            self.raises(BadNumber, {"part": "one"}, world.line_of, value, None)
            self.raises(BadNumber, {"part": "other"}, world.line_of, 0, value)
            self.raises(BadNumber, {"part": "house"}, world.disk_of, value)
            self.raises(BadNumber, {"part": "house"}, world.waiting_of, value)
        for one, other in ((0, 2), (2, 0), (0, 0), (1, 1)):
            self.raises(Misfit, {"part": "tie"}, world.line_of, one, other)
        self.assertEqual(look(world), before)
        self.assertIsNone(world.run(weather=Weather([("fall", 0)])))
        self.assertEqual(world.do(event=["fall", 1]), 0)
        self.assertEqual((world.line_of(other=1, one=0), world.disk_of(house=2)), (world.line_of(0, 1), world.disk_of(2)))


class WithOtherCodes(unittest.TestCase):
    """Worlds in whose houses a code runs that no program has: what a world makes of effects does not hang on the house."""

    def world(self, text, disk=()):
        world = World(COUNTS, ALONE, 3, 0)
        world.sites[0].computer = Computer(Code.read(text), disk)
        return world

    def test_a_beat_ends_in_50000_steps(self):
        world = self.world("jump 0")
        self.assertEqual([world.do(("beat", 0, 0)) for _ in range(2)], [50000, 50000])
        world = self.world(" / ".join(["push 1"] * 9999 + ["jump 0"]))
        self.assertEqual(world.do(("beat", 0, 0)), 50000)
        self.assertEqual(self.world("wait").do(("beat", 0, 0)), 1)

    def test_one_barrier_can_keep_two_rounds(self):
        world = self.world("push 0 / push 0 / write / input / push 1 / write / input / drop / push 0 / push 0 / write / barrier / "
                           "push 5 / push 0 / write / barrier / barrier")
        for many, given, inputs in ((6, 5, ()), (2, 6, ()), (3, 7, ()), (1, 8, (0, 6)), (3, 9, (0, 6)), (1, 9, (0, 6, 6)),
                                    (1, 9, (0, 6, 6))):
            world.do(("steps", 0, many, given))
            self.assertEqual(world.inputs, (inputs,))

    def test_an_input_that_was_read_ahead_of_a_cut(self):
        text = "push 1 / read / unless 6 / push 3 / push 0 / jump 10 / input / push 1 / write / jump 5 / write"
        world = self.world(text)
        world.do(("steps", 0, 9, 44))
        world.do(("cut", 0, (0,)))
        self.assertEqual((world.disk_of(0), world.inputs), (((1, 44),), ((),)))
        world.do(("steps", 0, 7, 55))
        self.assertEqual(world.waiting_of(0), ((0, 3),))
        world.do(("cut", 0, (0, 1)))
        self.assertEqual(world.inputs, ((44,),))

    def test_a_lot_of_a_cut_keeps_each_round_with_its_own_input(self):
        rows = "input / push 0 / write / " * 4
        for kept in ((), (0,), (1, 3), (0, 2, 3), (0, 1, 2, 3), (3, 4, 50)):
            world = self.world(rows + "wait")
            for turn in range(4):
                world.do(("steps", 0, 3, 10 + turn))
            world.do(("cut", 0, kept))
            self.assertEqual(world.inputs, (tuple(10 + at for at in kept if at < 4),))
            world.do(("cut", 0, kept))
            self.assertEqual(world.inputs, (tuple(10 + at for at in kept if at < 4),))

    def test_showings_at_the_next_place_alone(self):
        shows = ((0, 5), (0, 6), (2, 7), (1, 8), (1, 9), (-1, 1), (3, 2), (2, 4), (LEAST, 3), (MOST, 3))
        world = self.world(" / ".join(f"push {short} / push {place} / show" for place, short in shows))
        told = []
        for place, short in shows:
            world.do(("steps", 0, 3, 0))
            told += [short] * (place == len(told))
            self.assertEqual(world.screens, (tuple(told),))
        self.assertEqual(told, [5, 8, 4])

    def test_done_of_any_half(self):
        for turning, done in ((0, 7), (1, 9), (-1, 9), (5, 9)):
            world = self.world("wait", [(0, turning), (20, 7), (100, 9)])
            world.do(("beat", 0, 0))
            self.assertEqual(world.done, (done,))


class Storms(unittest.TestCase):
    def test_against_another_world(self):
        source = random.Random(91)
        for turn in range(90):
            net, s = source.choice(NETS), source.choice((0, 1, 2, 8))
            told = (some_program(source), net, source.choice((2, 3, 4, 5, 7, 19, 64)), s, source.choice(LEFT))
            world, sky = World(*told), Sky(*told)
            for _ in range(120):
                event = some_event(source, net)
                self.assertEqual(world.do(listed(event) if source.random() < 0.5 else event), sky.do(event), event)
            self.check_same(world, sky)

    def check_same(self, world, sky):
        self.assertEqual((world.screens, world.inputs), (tuple(sky.screens), tuple(sky.inputs)))
        self.assertEqual(world.fallen, tuple(sky.fallen))
        for (one, other), letters in sky.lines.items():
            self.assertEqual(world.line_of(one, other), tuple(letters))
        for house, computer in enumerate(sky.computers):
            self.assertEqual((world.disk_of(house), world.waiting_of(house)), (computer.disk, computer.waiting))
            self.assertEqual(world.done[house], standing_in(world.program, world.net, house, computer.disk).done)

    def test_a_storm_is_a_beginning_of_the_calm(self):
        source = random.Random(92)
        greatest = 0
        for turn in range(60):
            net, s = source.choice(NETS), source.choice((0, 1, 2, 3, 8))
            program, m = some_program(source), min(64, 2 * s + 3 + source.choice((0, 0, 1, 5)))
            world = World(program, net, m, s)
            for part in range(4):
                world.run(Weather([some_event(source, net, 0.0005) for _ in range(150)]))
                self.check_calm(world)
            greatest = max(greatest, *world.done)
        self.assertGreater(greatest, 15)

    def check_calm(self, world):
        """Each screen is a beginning of the calm one, each kept standing the last one there."""
        runs = calm_run(world.program, world.net, world.inputs)
        screens = calm_screens(world.program, world.net, world.inputs)
        for house, run in enumerate(runs):
            self.assertTrue(is_beginning(world.screens[house], screens[house]))
            standing = standing_in(world.program, world.net, house, world.disk_of(house))
            self.assertEqual(standing, run[-1])
            self.assertEqual(world.done[house], len(world.inputs[house]))
            for other in range(house):
                self.assertLessEqual(abs(world.done[house] - world.done[other]), distance(world.net, house, other))

    def test_cuts_behind_each_step_of_a_beat(self):
        source = random.Random(93)
        ahead = [("beat", 0, 1), ("beat", 1, 2), ("beat", 0, 3), ("hand", 0, 1, 0), ("hand", 1, 0, 0), ("beat", 1, 4)]
        world = World(ADDS, PAIR, 3, 0)
        world.run(Weather(ahead))
        for many in range(world.do(("beat", 0, 5)) + 1):
            world = World(ADDS, PAIR, 3, 0)
            world.run(Weather(ahead + [("steps", 0, many, 5)]))
            kept = tuple(at for at in range(40) if source.random() < 0.5)
            world.run(Weather([("cut", 0, kept), ("hand", 1, 0, 0), ("beat", 0, 6), ("beat", 0, 7), ("hand", 0, 1, 0),
                               ("beat", 1, 8), ("beat", 1, 9), ("hand", 1, 0, 0), ("beat", 0, 10)]))
            self.check_calm(world)
            self.assertGreaterEqual(world.done[0], 3)
            self.assertEqual(len(world.screens[0]), 2 * world.done[0])

    def test_fair_weather_brings_everybody_on(self):
        for net in NETS:
            world = World(ADDS, net, 3, 0)
            for turn in range(8):
                beats = [("beat", house, turn) for house in range(net.houses)]
                hands = [("hand", *tie, 0) for one, other in net.ties for tie in ((one, other), (other, one))]
                world.run(Weather(beats + beats + hands + beats))
                self.assertGreater(min(world.done), turn)
            self.check_calm(world)

    def test_numbers_that_are_too_small(self):
        storm = Weather.read("beat 0 5 / beat 0 6 / hand 0 1 0 / beat 1 7 / beat 1 8 / hand 0 1 0 / beat 1 9")
        for m, screens, inputs in ((3, ((0,), (0, 1)), ((5,), (7, 8))), (2, ((0,), (0, 1, 0)), ((5,), (7, 8, 9)))):
            world = World(SAYS, PAIR, m, 0)
            world.run(storm)
            self.assertEqual((world.screens, world.inputs), (screens, inputs))
        self.check_calm(World(SAYS, PAIR, 3, 0))

    def test_a_house_that_has_fallen_holds_the_others(self):
        world = World(SAYS, ROW, 3, 0)
        fair = [(word, house, 0) for word in ("beat",) * 2 for house in range(3)]
        fair += [("hand", *tie, 0) for one, other in ROW.ties for tie in ((one, other), (other, one))]
        fair += [("beat", house, 0) for house in range(3)]
        for _ in range(2):
            world.run(Weather(fair))
        world.do(("beat", 0, 0))
        rounds = world.done[0]
        world.do(("fall", 0))
        for _ in range(6):
            world.run(Weather(fair))
        self.assertEqual(world.done, (rounds, rounds + 1, rounds + 2))
        self.check_calm(world)

    def test_a_turning_cell_that_waits(self):
        world = World(COUNTS, ALONE, 3, 0, 1)
        world.do(("beat", 0, 4))
        self.assertEqual((world.inputs, world.done, world.waiting_of(0)), (((),), (0,), ((0, 1),)))
        world.do(("beat", 0, 5))
        self.assertEqual((world.inputs, world.done, world.screens), (((4,),), (1,), ((7, 12),)))
        lost, kept = World(COUNTS, ALONE, 3, 0, 1), World(COUNTS, ALONE, 3, 0, 1)
        lost.run(Weather([("beat", 0, 4), ("cut", 0, ()), ("beat", 0, 6), ("beat", 0, 7)]))
        kept.run(Weather([("beat", 0, 4), ("cut", 0, (0,)), ("beat", 0, 6), ("beat", 0, 7)]))
        self.assertEqual((lost.inputs, kept.inputs), (((6,),), ((4, 6),)))
        self.assertEqual((lost.screens, kept.screens), (((7, 16),), ((7, 13, 20),)))

    def test_a_world_hangs_on_its_parts_and_events_alone(self):
        source = random.Random(94)
        events = [some_event(source, RING) for _ in range(300)]
        world, other, third = [World(ADDS, RING, 5, 1) for _ in range(3)]
        world.run(Weather(events))
        for event in events:
            other.do(event)
            third.do(("beat", 0, 1))
        self.assertEqual(look(world), look(other))

    def test_300000_steps(self):
        source = random.Random(95)
        steps = 0
        world = World(ADDS, STAR, 19, 8)
        while steps < 300000:
            steps += world.do(some_event(source, STAR, 0))
        self.check_calm(world)


class Disks(unittest.TestCase):
    def test_disks_behind_rounds(self):
        world = World(COUNTS, ALONE, 3, 0)
        for turn in range(1, 5):
            world.do(("beat", 0, turn))
            told = Standing(turn, [3 + turn * (turn + 1) // 2], [], [], turn - 1, [3 + turn * (turn + 1) // 2])
            half = turn % 2
            pairs = dict(world.disk_of(0))
            self.assertEqual(pairs.get(0, 0), half)
            for address, short in half_pairs(COUNTS, ALONE, 0, told, 3, half):
                self.assertEqual(pairs.get(address, 0), short)


if __name__ == "__main__":
    unittest.main()
