import random
import unittest

from fairweather.calm import calm_run
from fairweather.errors import BadEvent, BadNet, BadNumber, BadProgram, BadWorld, Misfit
from fairweather.meanings import lead, spread, standings_of, trail
from fairweather.nets import Net
from fairweather.programs import Program
from fairweather.standings import Standing
from fairweather.weathers import Weather
from fairweather.worlds import World
from tests.helpers import STRANGE, Raising, nested
from tests.skies import Sky
from tests.storming import (ADDS, ALONE, COUNTS, LEFT, NETS, PAIR, RING, ROW, SAYS, TALK, look, parts, some_event, some_program,
                            told_distance, told_standing)

LATE = Weather.read("beat 0 5 / beat 0 6 / hand 0 1 0 / beat 1 7 / beat 1 8 / hand 0 1 0 / beat 1 9")
NO_WORLDS = STRANGE + [0, 3, "world", (), [ALONE], nested(30)]


class KeptStandings(Raising, unittest.TestCase):
    def check_standings(self, world):
        kept = standings_of(world)
        self.assertIs(type(kept), tuple)
        self.assertEqual([type(standing) for standing in kept], [Standing] * world.net.houses)
        self.assertEqual([parts(standing) for standing in kept], [told_standing(world, house) for house in range(world.net.houses)])
        self.assertEqual(tuple(standing.done for standing in kept), world.done)

    def test_new_worlds(self):
        for net in NETS:
            for left in LEFT:
                world = World(ADDS, net, 3, 0, left)
                self.assertEqual(standings_of(world), tuple(run[0] for run in calm_run(ADDS, net, [[]] * net.houses)))

    def test_behind_each_step_of_two_rounds(self):
        for left in LEFT:
            world = World(COUNTS, ALONE, 3, 0, left)
            whole = sum(World(COUNTS, ALONE, 3, 0, left).do(("beat", 0, 7)) for _ in range(2))
            seen = []
            for _ in range(whole + 40):
                world.do(("steps", 0, 1, 7))
                self.check_standings(world)
                seen.append((standings_of(world)[0].done, world.waiting_of(0)[-1:]))
            # The turning cell waits for a while: the half that it names does not count as long as it does.
            self.assertIn((1, ((0, 0),)) if left == 4 else (0, ((0, 1),)), seen)
            self.assertIn(2 if left != 1 else 1, [done for done, _ in seen])

    def test_a_round_is_kept_when_its_turning_cell_is_settled(self):
        world = World(COUNTS, ALONE, 3, 0)
        first = standings_of(world)
        while world.waiting_of(0) != ((0, 1),):
            self.assertEqual(standings_of(world), first)
            world.do(("steps", 0, 1, 7))
        self.assertEqual(standings_of(world), first)
        world.do(("cut", 0, (0,)))
        self.assertEqual(parts(standings_of(world)[0]), (1, (10,), (), (), 0, (10,)))

    def test_cells_that_wait_count_for_nothing(self):
        world = World(COUNTS, ALONE, 3, 0, 4)
        world.do(("beat", 0, 7))
        kept = standings_of(world)
        while (60, 20) not in world.waiting_of(0):
            world.do(("steps", 0, 1, 10))
            self.assertEqual(standings_of(world), kept)
        at = world.waiting_of(0).index((60, 20))
        world.do(("cut", 0, (at,)))
        self.assertEqual(parts(standings_of(world)[0]), (1, (20,), (), (), 0, (10,)))

    def test_a_turning_cell_that_waits_on_and_on(self):
        world = World(COUNTS, ALONE, 3, 0, 1)
        world.do(("beat", 0, 7))
        self.assertEqual((world.waiting_of(0), standings_of(world)[0].done), (((0, 1),), 0))
        world.do(("beat", 0, 8))
        self.assertEqual(parts(standings_of(world)[0]), (1, (10,), (), (), 0, (10,)))

    def test_a_named_half_that_was_not_settled(self):
        world = World(COUNTS, ALONE, 3, 0, 0)
        while world.waiting_of(0)[-1:] != ((0, 1),):
            world.do(("steps", 0, 1, 7))
        world.do(("cut", 0, (len(world.waiting_of(0)) - 1,)))
        self.assertEqual(parts(standings_of(world)[0]), (0, (0,), (), (), 0, ()))

    def test_storms(self):
        source = random.Random(101)
        for turn in range(60):
            left = LEFT[turn % len(LEFT)]
            told = (some_program(source), source.choice(NETS), source.choice((2, 3, 5, 19)), source.choice((0, 1, 8)), left)
            world, sky = World(*told), Sky(*told)
            for _ in range(100):
                event = some_event(source, told[1], 0.005, 0.2)
                world.do(event)
                sky.do(event)
                self.check_standings(world)
            settled = [dict(computer.disk) for computer in sky.computers]
            self.assertEqual([standing.done for standing in standings_of(world)],
                             [disk.get(100 if disk.get(0, 0) else 20, 0) for disk in settled])

    def test_a_storm_changes_kept_standings_by_one_round_at_most(self):
        source = random.Random(102)
        for _ in range(12):
            net = source.choice(NETS)
            world = World(ADDS, net, 5, 1)
            kept = standings_of(world)
            for _ in range(150):
                house = source.randrange(net.houses)
                steps = source.random() < 0.6
                world.do(("steps", house, 1, source.randrange(9)) if steps else some_event(source, net, 0.003, 0.3))
                told = standings_of(world)
                changed = [house for house in range(net.houses) if told[house] != kept[house]]
                self.assertLessEqual(len(changed), 1)
                # One event other than a step can do a whole beat, or 400 steps.
                if changed and steps:
                    self.assertEqual(told[changed[0]].done, kept[changed[0]].done + 1)
                kept = told

    def test_refused(self):
        for value in NO_WORLDS:
            self.raises(BadWorld, {"part": "world"}, standings_of, value)
        self.assertEqual(standings_of(world=World(TALK, ALONE, 3, 0))[0].done, 0)


class Leads(Raising, unittest.TestCase):
    def check_leads(self, world):
        houses = range(world.net.houses)
        for one in houses:
            for other in houses:
                value = lead(world, one, other)
                self.assertEqual((type(value), value), (int, world.done[one] - world.done[other]))
        told = all(abs(world.done[one] - world.done[other]) <= told_distance(world.net, one, other)
                   for one in houses for other in houses)
        self.assertIs(spread(world), told)
        return told

    def test_storms_of_right_numbers(self):
        source = random.Random(103)
        for _ in range(20):
            net, s = source.choice(NETS), source.choice((0, 1, 3))
            world = World(some_program(source), net, 2 * s + 3, s)
            for _ in range(100):
                world.do(some_event(source, net, 0.003))
                self.assertTrue(self.check_leads(world))

    def test_numbers_that_are_too_small(self):
        world = World(SAYS, PAIR, 2, 0)
        spreads = []
        for event in LATE.events:
            world.do(event)
            spreads.append(self.check_leads(world))
        self.assertEqual((spreads[-1], world.done, lead(world, 1, 0), lead(world, 0, 1)), (False, (1, 3), 2, -2))
        source = random.Random(104)
        for _ in range(20):
            net, s = source.choice(NETS), source.choice((1, 3, 8))
            world = World(SAYS, net, 2, s)
            for _ in range(100):
                world.do(some_event(source, net, 0))
                spreads.append(self.check_leads(world))
        self.assertGreater(spreads.count(False), 50)

    def test_refused(self):
        world = World(TALK, ROW, 3, 0)
        for value in NO_WORLDS:
            self.raises(BadWorld, {"part": "world"}, lead, value, 0, 0)
            self.raises(BadWorld, {"part": "world"}, spread, value)
        for value in STRANGE + [-1, 3, 10 ** 30, (0,)]:
            self.raises(BadNumber, {"part": "one"}, lead, world, value, 0)
            self.raises(BadNumber, {"part": "other"}, lead, world, 0, value)
        wrong = [(0, None, BadWorld, {"part": "world"}), (1, 3, BadNumber, {"part": "one"}), (2, -1, BadNumber, {"part": "other"})]
        self.raises_in_order(lead, [world, 0, 1], wrong)
        self.assertEqual((lead(other=1, one=0, world=world), spread(world=world)), (0, True))


class Trails(Raising, unittest.TestCase):
    def test_storms(self):
        source = random.Random(105)
        for turn in range(45):
            net = source.choice(NETS)
            told = (some_program(source), net, source.choice((2, 3, 5, 64)), source.choice((0, 1, 8)), LEFT[turn % len(LEFT)])
            weather = Weather([some_event(source, net, 0.01) for _ in range(80)])
            world, rows = World(*told), []
            for event in weather.events:
                world.do(event)
                rows.append(tuple(standing.done for standing in standings_of(world)))
            found = trail(*told, weather)
            self.assertEqual(found, tuple(rows))
            self.assertEqual({type(value) for value in (found, *found)}, {tuple})
            self.assertEqual(trail(*told, weather), found)

    def test_one_event_of_each_kind(self):
        for text, told in (("beat 0 5", (1, 0)), ("steps 0 1 5", (0, 0)), ("cut 0 1 2", (0, 0)), ("fall 0", (0, 0)),
                           ("hand 0 1 0", (0, 0)), ("drop 1 0 9", (0, 0)), ("steps 1 50000 0", (0, 1))):
            self.assertEqual(trail(TALK, PAIR, 3, 0, None, Weather.read(text)), (told,))

    def test_2000_events(self):
        rows = trail(COUNTS, ALONE, 3, 0, None, Weather([("beat", 0, 1)] * 2000))
        self.assertEqual(rows, tuple((turn,) for turn in range(1, 2001)))

    def test_refused(self):
        good = [TALK, PAIR, 3, 0, None, LATE]
        kinds = [(BadProgram, "program", STRANGE + ["cells round end", 0]), (BadNet, "net", STRANGE + ["2 0 1", 0]),
                 (BadNumber, "m", STRANGE + [1, 65]), (BadNumber, "s", STRANGE + [-1, 9]),
                 (BadNumber, "left", [value for value in STRANGE if value is not None] + [-1, 8]),
                 (BadEvent, "weather", STRANGE + ["beat 0 5", ("beat", 0, 5), [("beat", 0, 5)], 0])]
        for at, (kind, part, values) in enumerate(kinds):
            for value in values:
                self.raises(kind, {"part": part}, trail, *good[:at], value, *good[at + 1:])
        for event in (("fall", 2), ("beat", 5, 0), ("hand", 0, 2, 0), ("steps", 3, 1, 1), ("cut", 2, ())):
            self.raises(Misfit, {"part": "weather"}, trail, *good[:5], Weather([*LATE.events, event]))
        self.raises(Misfit, {"part": "weather"}, trail, TALK, ROW, 3, 0, None, Weather.read("hand 0 2 0"))
        wrong = [(0, None, BadProgram, {"part": "program"}), (1, None, BadNet, {"part": "net"}), (2, 1, BadNumber, {"part": "m"}),
                 (3, 9, BadNumber, {"part": "s"}), (4, 8, BadNumber, {"part": "left"}), (5, (), BadEvent, {"part": "weather"})]
        self.raises_in_order(trail, good, wrong)
        self.raises_in_order(trail, good, [*wrong[:5], (5, Weather.read("fall 2"), Misfit, {"part": "weather"})])
        self.assertEqual(trail(weather=Weather.read("fall 1"), left=0, s=8, m=64, net=RING, program=Program([], [])), ((0, 0, 0, 0),))
        self.assertEqual(trail(TALK, Net(1, []), 2, 8, 7, Weather([["cut", 0, [5]]])), ((0,),))


if __name__ == "__main__":
    unittest.main()
