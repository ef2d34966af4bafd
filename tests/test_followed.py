import random
import unittest

from fairweather.calm import calm_run, calm_screens
from fairweather.errors import BadWorld
from fairweather.followed import Followed, Parted, Strayed, followed
from fairweather.programs import Program
from fairweather.weathers import Weather
from fairweather.worlds import World
from tests.helpers import STRANGE, Raising, nested
from tests.storming import (ADDS, ALONE, COUNTS, LEFT, NETS, PAIR, ROW, SAYS, TALK, look, parts, some_event, some_program,
                            told_standing)

LATE = Weather.read("beat 0 5 / beat 0 6 / hand 0 1 0 / beat 1 7 / beat 1 8 / hand 0 1 0 / beat 1 9")
MUTE = Program.read("cells sum 1 at 0 round each at do sum := ( sum + heard at ) end sum := ( sum + input ) each at do "
                    "say ( sum + at ) to at end end")


def stray(screen, calm):
    """The first place that differs or is beyond, None if there is none."""
    return next((at for at in range(len(screen)) if screen[:at + 1] != calm[:at + 1]), None)


def told_paper(world):
    """The paper on a world, in another way than the package: house by house, screens first."""
    screens = calm_screens(world.program, world.net, world.inputs)
    for house, screen in enumerate(world.screens):
        if stray(screen, screens[house]) is not None:
            return Strayed(house, stray(screen, screens[house]))
    for house, run in enumerate(calm_run(world.program, world.net, world.inputs)):
        if parts(run[-1]) != told_standing(world, house):
            return Parted(house)
    return Followed(world.inputs)


class RightWorlds(unittest.TestCase):
    def check_followed(self, world):
        before = look(world)
        paper = followed(world)
        self.assertIs(type(paper), Followed)
        self.assertEqual((paper.word, paper.inputs, paper.parts), ("followed", world.inputs, (world.inputs,)))
        self.assertIs(bool(paper), True)
        self.assertEqual(followed(world), paper)
        self.assertEqual(look(world), before)

    def test_new_worlds(self):
        for net in NETS:
            world = World(ADDS, net, 3, 0)
            self.check_followed(world)
            self.assertEqual(followed(world).inputs, ((),) * net.houses)

    def test_behind_each_event_of_storms(self):
        source = random.Random(111)
        for _ in range(25):
            net, s = source.choice(NETS), source.choice((0, 1, 2, 8))
            world = World(some_program(source), net, min(64, 2 * s + 3 + source.choice((0, 0, 1, 40))), s)
            for _ in range(80):
                world.do(some_event(source, net, 0.004, 0.2))
                self.check_followed(world)

    def test_behind_each_step_and_a_cut_there(self):
        source = random.Random(112)
        ahead = [("beat", 0, 1), ("beat", 1, 2), ("beat", 0, 3), ("hand", 0, 1, 0), ("beat", 1, 4), ("hand", 1, 0, 0)]
        whole = World(ADDS, PAIR, 3, 0)
        whole.run(Weather(ahead))
        for many in range(whole.do(("beat", 0, 5)) + 2):
            world = World(ADDS, PAIR, 3, 0)
            world.run(Weather([*ahead, ("steps", 0, many, 5)]))
            self.check_followed(world)
            world.do(("cut", 0, tuple(at for at in range(60) if source.random() < source.choice((0, 0.5, 1)))))
            self.check_followed(world)
            world.run(Weather([("beat", 0, 6), ("hand", 1, 0, 0), ("beat", 0, 7), ("hand", 0, 1, 0), ("beat", 1, 8)]))
            self.check_followed(world)

    def test_fallen_houses(self):
        for net in NETS:
            world = World(ADDS, net, 3, 0)
            world.run(Weather([("beat", house, 3) for house in range(net.houses)] + [("steps", 0, 130, 5), ("fall", 0)]))
            self.check_followed(world)


class OtherWorlds(Raising, unittest.TestCase):
    def check_paper(self, world, told):
        before = look(world)
        paper = followed(world)
        self.assertEqual((type(paper), paper.parts), (type(told), told.parts))
        self.assertIs(bool(paper), isinstance(told, Followed))
        self.assertEqual(paper, followed(world))
        self.assertEqual(look(world), before)
        return paper

    def test_storms(self):
        source = random.Random(113)
        seen = set()
        for turn in range(140):
            left, net = LEFT[turn % len(LEFT)], source.choice(NETS)
            m, s = source.choice(((3, 0), (2, 0), (3, 1), (4, 8), (2, 8), (19, 8)))
            world = World(source.choice((some_program(source), COUNTS, ADDS, MUTE)), net, m, s, left)
            for _ in range(12):
                world.run(Weather([some_event(source, net, 0.003, 0.25) for _ in range(12)]))
                seen.add((self.check_paper(world, told_paper(world)).word, left))
        self.assertLessEqual({("parted", left) for left in (None, 4)}, seen)
        self.assertLessEqual({("strayed", left) for left in (None, 0, 1, 2, 3, 4)}, seen)
        self.assertLessEqual({("followed", left) for left in LEFT}, seen)

    def test_the_first_house_and_place(self):
        world = World(SAYS, PAIR, 2, 0)
        world.run(LATE)
        self.check_paper(world, Strayed(1, 2))
        world = World(COUNTS, ALONE, 3, 0, 3)
        world.run(Weather.read("beat 0 5 / beat 0 5"))
        self.check_paper(world, Followed([[5, 5]]))
        while len(world.screens[0]) < 4:
            world.do(("steps", 0, 1, 5 + len(world.screens[0])))
            if len(world.screens[0]) == 3:
                self.check_paper(world, Strayed(0, 2))
                world.run(Weather.read("cut 0 / beat 0 0 / beat 0 0"))
        self.check_paper(world, Strayed(0, 2))

    def test_houses_in_order(self):
        # In both houses a round is shown, lost and done anew.
        for first, second in ((0, 1), (1, 0)):
            world = World(Program.read("cells round show input end"), PAIR, 3, 0, 1)
            world.run(Weather([("beat", first, 5), ("cut", first, ()), ("beat", first, 6)]))
            self.check_paper(world, Strayed(first, 0))
            world.run(Weather([("beat", second, 5), ("cut", second, ()), ("beat", second, 6)]))
            self.check_paper(world, Strayed(0, 0))

    def test_screens_come_ahead_of_standings(self):
        world = World(COUNTS, PAIR, 3, 0, 0)
        for house in (0, 1):
            while (0, 1) not in world.waiting_of(house):
                world.do(("steps", house, 1, 7))
        world.do(("cut", 1, (len(world.waiting_of(1)) - 1,)))
        self.check_paper(world, Parted(1))
        world.do(("cut", 0, (len(world.waiting_of(0)) - 1,)))
        self.check_paper(world, Parted(0))
        world.run(Weather.read("beat 1 5"))
        self.check_paper(world, Strayed(1, 0))

    def test_what_a_storm_did_stays(self):
        source = random.Random(114)
        world = World(SAYS, PAIR, 2, 0)
        world.run(LATE)
        world.run(Weather.read("hand 1 0 0 / beat 0 0 / beat 0 0 / beat 0 0 / beat 0 0"))
        self.assertEqual(followed(world).parts, (1, 2))
        for _ in range(150):
            world.do(some_event(source, PAIR, 0))
            self.assertEqual(stray(world.screens[1], calm_screens(SAYS, PAIR, world.inputs)[1]), 2)
            self.assertIn(followed(world).parts[0], (0, 1))

    def test_refused(self):
        for value in STRANGE + [0, 3, "world", (), [ALONE], nested(30), Followed([[]])]:
            self.raises(BadWorld, {"part": "world"}, followed, value)
        self.assertEqual(followed(world=World(TALK, ROW, 3, 0)).inputs, ((), (), ()))


if __name__ == "__main__":
    unittest.main()
