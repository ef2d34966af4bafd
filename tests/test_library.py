import random
import unittest

from fairweather.calm import calm_screens
from fairweather.errors import BadNumber
from fairweather.library import echo, leader, routes, tally, tree
from fairweather.nets import Net
from fairweather.programs import Program
from tests.helpers import STRANGE, Raising
from tests.storming import all_nets, some_net, told_distance

LEAST, MOST = -2147483648, 2147483647
SHORTS = (LEAST, LEAST + 1, -2, -1, 0, 1, 2, MOST - 1, MOST)
NETS = [Net(6, [(0, 1), (1, 2), (2, 3), (3, 4), (4, 5)]), Net(6, [(0, 1), (1, 2), (2, 3), (3, 4), (4, 5), (0, 5)]),
        Net(6, [(0, 5), (1, 5), (2, 5), (3, 5), (4, 5)]), Net(6, [(one, other) for other in range(6) for one in range(other)]),
        Net(5, [(0, 1), (1, 2), (2, 3), (3, 4), (0, 4)]), Net(6, [(0, 3), (1, 3), (2, 4), (3, 4), (4, 5)])]


class Told:
    """What the programs of the library show, from distances and inputs alone."""

    def __init__(self, net, inputs):
        self.net, self.inputs = net, inputs
        self.houses = range(net.houses)
        self.far = {(one, other): told_distance(net, one, other) for one in self.houses for other in self.houses}
        self.rounds = [min(len(inputs[other]) + self.far[house, other] for other in self.houses) for house in self.houses]

    def neighbours(self, house):
        return [other for other in self.houses if self.far[house, other] == 1]

    def screens(self, show):
        """The screens, show telling the shorts of a house in a round."""
        return tuple(tuple(short for k in range(self.rounds[house]) for short in show(house, k)) for house in self.houses)

    def near(self, house, k):
        return [other for other in self.houses if self.far[house, other] <= k]

    def routes(self, goal):
        return self.screens(lambda house, k: [self.far[house, goal] if goal in self.near(house, k) else -1])

    def tree(self, root):
        def show(house, k):
            if root == house or root not in self.near(house, k):
                return [-1]
            return [[self.far[other, root] < self.far[house, root] for other in self.neighbours(house)].index(True)]
        return self.screens(show)

    def leader(self):
        return self.screens(lambda house, k: [max(self.inputs[other][0] for other in self.near(house, k))])

    def tally(self):
        return self.screens(lambda house, k: [len(self.near(house, k))])

    def echo(self):
        return self.screens(lambda house, k: [self.inputs[other][k - 1] if k else 0 for other in self.neighbours(house)])


def some_inputs(source, net, most=9):
    """Inputs of unlike lengths, of small shorts, great ones, or those below 0 alone."""
    shorts = source.choice((SHORTS, (LEAST, MOST), (-5, -4, -3, -2, -1), (LEAST,), (0, 1), range(-9, 9)))
    return [[source.choice(shorts) for _ in range(source.choice((most, source.randrange(most + 1))))] for _ in range(net.houses)]


class Library(Raising, unittest.TestCase):
    def check_all(self, net, inputs):
        told = Told(net, inputs)
        for number in range(6):
            self.assertEqual(calm_screens(routes(number), net, inputs), told.routes(number))
            self.assertEqual(calm_screens(tree(number), net, inputs), told.tree(number))
        self.assertEqual(calm_screens(leader(), net, inputs), told.leader())
        self.assertEqual(calm_screens(tally(), net, inputs), told.tally())
        self.assertEqual(calm_screens(echo(), net, inputs), told.echo())

    def test_small_nets(self):
        source = random.Random(171)
        for houses in range(1, 5):
            for net in all_nets(houses):
                self.check_all(net, some_inputs(source, net))

    def test_large_nets(self):
        source = random.Random(172)
        for net in NETS + [some_net(source, source.choice((5, 6))) for _ in range(30)]:
            self.check_all(net, some_inputs(source, net))
            self.check_all(net, some_inputs(source, net, 3))

    def test_long_runs(self):
        for net in (NETS[0], NETS[3]):
            inputs = [[house - k for k in range(200)] for house in range(6)]
            self.check_all(net, inputs)

    def test_inputs_below_0(self):
        for net in NETS:
            inputs = [[LEAST + house] + [MOST] * 8 for house in range(net.houses)]
            self.check_all(net, inputs)
            self.check_all(net, [[LEAST] * 7] * net.houses)

    def test_numbers_that_the_net_lacks(self):
        for net in (Net(1, []), Net(2, [(0, 1)]), Net(5, NETS[4].ties)):
            for number in range(net.houses, 6):
                for program in (routes(number), tree(number)):
                    told = ((-1,) * 5,) * net.houses
                    self.assertEqual(calm_screens(program, net, [[0] * 5] * net.houses), told)

    def test_programs(self):
        for program in (*map(routes, range(6)), *map(tree, range(6)), leader(), tally(), echo()):
            self.assertIs(type(program), Program)
            self.assertEqual(Program.read(str(program)), program)
        for make in (leader, tally, echo):
            self.assertEqual(make(), make())
        self.assertEqual(routes(goal=3), routes(3))
        self.assertEqual(tree(root=5), tree(5))

    def test_refused(self):
        for value in STRANGE + [-1, 6, 10 ** 30, (0,), [0]]:
            self.raises(BadNumber, {"part": "goal"}, routes, value)
            self.raises(BadNumber, {"part": "root"}, tree, value)


if __name__ == "__main__":
    unittest.main()
