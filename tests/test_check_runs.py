import random
import unittest

from fairweather.calm import calm_run, calm_screens
from fairweather.check_runs import shows_followed
from fairweather.errors import BadWorld
from fairweather.exactly import Right, Still, Wrong
from fairweather.followed import Followed, Parted, Strayed, followed
from fairweather.papers import Denial, Paper
from fairweather.weathers import Weather
from fairweather.worlds import World
from tests.helpers import STRANGE, Raising, listed, nested
from tests.storming import (ADDS, ALONE, COUNTS, LEFT, NETS, PAIR, SAYS, TALK, look, parts, some_event, some_program,
                            told_standing)
from tests.test_followed import LATE, MUTE, stray


def told_follows(world, inputs):
    """Whether a world follows the calm run of some inputs."""
    screens = calm_screens(world.program, world.net, inputs)
    runs = calm_run(world.program, world.net, inputs)
    return all(stray(world.screens[house], screens[house]) is None and parts(run[-1]) == told_standing(world, house)
               for house, run in enumerate(runs))


class RightPapers(unittest.TestCase):
    def near(self, source, inputs):
        """Inputs near some: one changed, one more or less, a list more or less."""
        house = source.randrange(len(inputs))
        for given in ([*inputs[house], 0], inputs[house][:-1], inputs[house][1:], [*inputs[house], *inputs[house]], []):
            yield inputs[:house] + (tuple(given),) + inputs[house + 1:]
        for at in range(len(inputs[house])):
            for change in (1, -7, 2 ** 31):
                given = list(inputs[house])
                given[at] = (given[at] + change + 2 ** 31) % 2 ** 32 - 2 ** 31
                yield inputs[:house] + (tuple(given),) + inputs[house + 1:]

    def test_inputs_near_the_right_ones(self):
        source = random.Random(121)
        found = []
        for _ in range(30):
            net, s = source.choice(NETS), source.choice((0, 1, 8))
            world = World(some_program(source), net, 2 * s + 3, s)
            world.run(Weather([some_event(source, net, 0.004, 0.2) for _ in range(90)]))
            self.assertIs(shows_followed(world, Followed(world.inputs)), True)
            self.assertIs(shows_followed(world, Followed(listed(world.inputs))), True)
            for inputs in self.near(source, world.inputs):
                value = shows_followed(world, Followed(inputs))
                self.assertIs(value, told_follows(world, inputs))
                found.append(value)
        self.assertGreater(min(found.count(True), found.count(False)), 20)

    def test_others_with_the_same_calm_run(self):
        # SAYS reads no input: only how many there are counts; longer ones are right where a neighbour holds the house.
        world = World(SAYS, PAIR, 3, 0)
        world.run(Weather.read("beat 0 5 / beat 0 6 / hand 0 1 0 / beat 1 7 / beat 1 8"))
        self.assertEqual(world.done, (1, 2))
        for inputs, told in (([[9], [9, 9]], True), ([[9], [9, 9, 9]], True), ([[9], [9] * 50], True), ([[9], [9]], False),
                             ([[9, 9], [9, 9]], False), ([[], [9, 9]], False), ([[9], []], False)):
            self.assertIs(shows_followed(world, Followed(inputs)), told)

    def test_a_screen_may_be_behind(self):
        # Behind a cut the newest round is kept, but not shown yet.
        world = World(COUNTS, ALONE, 3, 0)
        while world.waiting_of(0) != ((0, 1),):
            world.do(("steps", 0, 1, 7))
        world.do(("cut", 0, (0,)))
        self.assertEqual((world.screens, world.inputs), (((),), ((7,),)))
        for inputs, told in (([[7]], True), ([[8]], False), ([[]], False), ([[7, 0]], False)):
            self.assertIs(shows_followed(world, Followed(inputs)), told)

    def test_strayed_and_parted(self):
        source = random.Random(122)
        seen = set()
        for turn in range(90):
            left, net = LEFT[turn % len(LEFT)], source.choice(NETS)
            m, s = source.choice(((3, 0), (2, 0), (3, 1), (2, 8)))
            world = World(source.choice((some_program(source), COUNTS, ADDS, MUTE)), net, m, s, left)
            world.run(Weather([some_event(source, net, 0.003, 0.25) for _ in range(70)]))
            before = look(world)
            screens, runs = calm_screens(world.program, net, world.inputs), calm_run(world.program, net, world.inputs)
            houses = range(net.houses)
            firsts = [stray(world.screens[house], screens[house]) for house in houses]
            parted = [parts(runs[house][-1]) != told_standing(world, house) for house in houses]
            for house in range(-1, 7):
                for place in range(-1, max(map(len, world.screens)) + 2):
                    told = house in houses and firsts[house] == place
                    self.assertIs(shows_followed(world, Strayed(house, place)), told)
                told = house in houses and firsts == [None] * net.houses and parted[house]
                self.assertIs(shows_followed(world, Parted(house)), told)
                seen.add(("parted", told))
            self.assertIs(shows_followed(world, followed(world)), True)
            self.assertIs(shows_followed(world, Followed(world.inputs)), isinstance(followed(world), Followed))
            seen.add((followed(world).word, len([place for place in firsts if place is not None])))
            self.assertEqual(look(world), before)
        self.assertLessEqual({("parted", True), ("parted", 0), ("strayed", 1), ("strayed", 2), ("followed", 0)}, seen)


class WrongPapers(Raising, unittest.TestCase):
    def test_true_and_false_stand_for_no_number(self):
        world = World(TALK, PAIR, 3, 0)
        world.run(Weather.read("beat 0 1 / beat 1 0"))
        self.assertIs(shows_followed(world, Followed([[1], [0]])), True)
        for inputs in ([[True], [0]], [[1], [False]], [[1.0], [0]], [["1"], [0]]):
            self.assertIs(shows_followed(world, Followed(inputs)), False)
        wild = World(SAYS, PAIR, 2, 0)
        wild.run(LATE)
        self.assertIs(shows_followed(wild, Strayed(1, 2)), True)
        lone = World(COUNTS, ALONE, 3, 0, 3)
        while not lone.screens[0]:
            lone.do(("steps", 0, 1, 7))
        self.assertIs(shows_followed(lone, Strayed(0, 0)), True)
        for house, place in ((True, 2), (1, True), (1.0, 2), (1, 2.0), ("1", 2), (1, "2"), ((1,), 2), (None, None)):
            self.assertIs(shows_followed(wild, Strayed(house, place)), False)
        for house, place in ((False, 0), (0, False), (False, False), (0, None)):
            self.assertIs(shows_followed(lone, Strayed(house, place)), False)
        named = World(COUNTS, ALONE, 3, 0, 0)
        while (0, 1) not in named.waiting_of(0):
            named.do(("steps", 0, 1, 7))
        named.do(("cut", 0, (len(named.waiting_of(0)) - 1,)))
        self.assertIs(shows_followed(named, Parted(0)), True)
        self.assertIs(shows_followed(named, Parted(False)), False)

    def test_parts_of_all_kinds(self):
        world = World(TALK, PAIR, 3, 0)
        world.run(Weather.read("beat 0 1 / beat 1 0"))
        for value in STRANGE + [0, 1, (), [[1]], [[1], [0], []], [[1], 0], [1, 0], [[1], [2 ** 31]], [[[1]], [[0]]], nested(30), world,
                                Followed([[1], [0]]), {0: [1], 1: [0]}, "10"]:
            self.assertIs(shows_followed(world, Followed(value)), False)
            self.assertIs(shows_followed(world, Parted(value)), False)
            for other in (value, 0):
                self.assertIs(shows_followed(world, Strayed(value, other)), False)
                self.assertIs(shows_followed(world, Strayed(other, value)), False)

    def test_values_of_other_kinds(self):
        world, wild = World(TALK, PAIR, 3, 0), World(SAYS, PAIR, 2, 0)
        wild.run(LATE)
        for value in STRANGE + [0, (), [[], []], ((), ()), nested(30), world, Paper("followed", [[], []]), Denial("strayed", 1, 2),
                                Denial("parted", 0), Right(3, 0), Wrong(TALK, PAIR, LATE, 1), Still(TALK, PAIR, LATE, 1),
                                Weather([("fall", 0)]), Followed, Strayed]:
            self.assertIs(shows_followed(world, value), False)
            self.assertIs(shows_followed(wild, value), False)

    def test_refused(self):
        for value in STRANGE + [0, 3, "world", (), [ALONE], nested(30)]:
            self.raises(BadWorld, {"part": "world"}, shows_followed, value, Followed([[]]))
            self.raises(BadWorld, {"part": "world"}, shows_followed, value, None)
        self.assertIs(shows_followed(value=Followed([[]]), world=World(TALK, ALONE, 3, 0)), True)


if __name__ == "__main__":
    unittest.main()
