import random
import unittest

from fairweather.calm import calm_screens, is_beginning
from fairweather.check_exactly import shows_judged
from fairweather.errors import BadNumber
from fairweather.exactly import Right, Still, Wrong, judged, least_number
from fairweather.followed import Followed, followed
from fairweather.sweeps import shows_each_round, sweep
from fairweather.worlds import World
from tests.helpers import STRANGE, Raising
from tests.storming import LEFT, look


class Numbers(Raising, unittest.TestCase):
    def test_least_numbers(self):
        self.assertEqual([least_number(s) for s in range(9)], [3, 5, 7, 9, 11, 13, 15, 17, 19])
        for value in STRANGE + [-1, 9, 10 ** 30, (0,)]:
            self.raises(BadNumber, {"part": "s"}, least_number, value)
        self.assertEqual(least_number(s=8), 19)


class Judged(Raising, unittest.TestCase):
    def test_words(self):
        for s in range(9):
            for m in range(2, 65):
                for left in LEFT:
                    paper = judged(m, s, left)
                    if left is None and m >= 2 * s + 3:
                        self.assertEqual((type(paper), paper.parts), (Right, (m, s)))
                    else:
                        self.assertIs(type(paper), Still if left in (5, 6, 7) else Wrong)

    def test_the_same_paper_when_asked_again(self):
        for m, s in ((3, 0), (2, 0), (6, 2), (18, 8), (64, 8)):
            for left in LEFT:
                self.assertEqual(judged(m, s, left), judged(m, s, left))
                self.assertEqual(judged(m, s, left), judged(left=left, s=s, m=m))
        self.assertEqual(judged(2, 0), judged(2, 0, None))

    def told_numbers(self):
        """All that are too small, and some others, with each row."""
        source = random.Random(151)
        for s in range(9):
            for m in range(2, 2 * s + 3):
                yield m, s, None
            for left in range(8):
                for m in {2, 3, 2 * s + 2, 2 * s + 3, 64, source.randrange(2, 65)}:
                    yield m, s, left

    def test_papers_are_right(self):
        for m, s, left in self.told_numbers():
            paper = judged(m, s, left)
            self.assertIs(shows_judged(m, s, left, paper), True, (m, s, left))
            self.check_storm(paper, m, s, left)
            self.check_fair(paper, s)

    def check_storm(self, paper, m, s, left):
        """What the paper tells, seen without the package's own check."""
        world = World(paper.program, paper.net, m, s, left)
        world.run(paper.weather)
        screen = world.screens[paper.house]
        if isinstance(paper, Wrong):
            calm = calm_screens(paper.program, paper.net, world.inputs)[paper.house]
            # It shows what the calm run never shows: another short at a place, not just more of them.
            self.assertTrue(any(one != other for one, other in zip(screen, calm)))
            return
        self.assertNotIn(True, world.fallen)
        self.assertTrue(shows_each_round(paper.program))
        for _ in range(10):
            world.run(sweep(paper.net, 0))
            self.assertEqual(world.screens[paper.house], screen)

    def check_fair(self, paper, s):
        """With a right m and all rows nothing goes wrong in the same storm, and nothing stands still behind it."""
        world = World(paper.program, paper.net, 2 * s + 3, s)
        for event in paper.weather.events:
            world.do(event)
            self.assertIsInstance(followed(world), Followed)
        before = look(world)
        for _ in range(paper.net.houses):
            world.run(sweep(paper.net, 0))
        for screen, ahead, calm in zip(world.screens, before[0], calm_screens(paper.program, paper.net, world.inputs)):
            self.assertTrue(is_beginning(screen, calm))
            self.assertGreater(len(screen), len(ahead))

    def test_refused(self):
        for value in STRANGE + [1, 65, 0, -3, 10 ** 30, (3,)]:
            self.raises(BadNumber, {"part": "m"}, judged, value, 0)
        for value in STRANGE + [-1, 9, 10 ** 30, (0,)]:
            self.raises(BadNumber, {"part": "s"}, judged, 3, value)
        for value in STRANGE + [-1, 8, 10 ** 30, (0,)]:
            if value is not None:
                self.raises(BadNumber, {"part": "left"}, judged, 3, 0, value)
        wrong = [(0, 1, BadNumber, {"part": "m"}), (1, 9, BadNumber, {"part": "s"}), (2, 8, BadNumber, {"part": "left"})]
        self.raises_in_order(judged, [3, 0, None], wrong)


if __name__ == "__main__":
    unittest.main()
