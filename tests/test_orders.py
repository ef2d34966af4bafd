import random
import unittest

from fairweather.calm import calm_screens
from fairweather.errors import BadNet, BadNumber, Twice
from fairweather.nets import Net
from fairweather.orders import lockstep, together
from fairweather.programs import Program
from tests.helpers import STRANGE, Raising, nested
from tests.storming import ROW, all_nets, some_net
from tests.test_library import LEAST, MOST, NETS, SHORTS, Told, some_inputs


def farthest(told, house):
    return max(told.far[house, other] for other in told.houses)


def told_together(net, house, inputs):
    """The screens of an order."""
    told = Told(net, inputs)
    orders = [k for k, given in enumerate(inputs[house]) if given]
    return told.screens(lambda _, k: [int(bool(orders) and k >= orders[0] + farthest(told, house))])


def told_lockstep(net, one, other, inputs):
    """The screens of a game, played move by move."""
    told = Told(net, inputs)
    late = max(farthest(told, one), farthest(told, other))
    pieces, boards = {one: 0, other: 4}, [(0, 4)]
    for k in range(max(map(len, inputs))):
        for house, rival in ((one, other), (other, one)):
            given = inputs[house][k] if k < len(inputs[house]) else 0
            goal = (pieces[house] + (given > 0) - (given < 0)) % 8
            if goal != pieces[rival]:
                pieces[house] = goal
        boards.append((pieces[one], pieces[other]))
    return told.screens(lambda _, k: boards[max(0, k - late + 1)])


class Together(Raising, unittest.TestCase):
    def check(self, net, house, inputs):
        self.assertEqual(calm_screens(together(net, house), net, inputs), told_together(net, house, inputs))

    def test_small_nets(self):
        source = random.Random(181)
        for houses in range(1, 5):
            for net in all_nets(houses):
                for house in range(houses):
                    for order in (0, 1, 3, 9):
                        inputs = some_inputs(source, net, 12)
                        inputs[house] = [0] * order + [source.choice((LEAST, -1, 1, MOST))] + [source.choice(SHORTS) for _ in range(9)]
                        self.check(net, house, inputs)

    def test_large_nets(self):
        source = random.Random(182)
        for net in NETS + [some_net(source, source.choice((5, 6))) for _ in range(20)]:
            for house in range(net.houses):
                inputs = some_inputs(source, net, 14)
                inputs[house] = [0] * source.randrange(9) + inputs[house]
                self.check(net, house, inputs)

    def test_none(self):
        source = random.Random(183)
        for net in NETS:
            inputs = some_inputs(source, net, 9)
            inputs[2] = [0] * 9
            self.check(net, 2, inputs)
            self.assertNotIn(1, sum(calm_screens(together(net, 2), net, inputs), ()))

    def test_long_after_an_order(self):
        for net in (Net(1, []), ROW, NETS[0]):
            for house in range(net.houses):
                self.check(net, house, [[0, 0, 7] + [0] * 300] * net.houses)

    def test_programs(self):
        for net in NETS:
            for house in range(net.houses):
                self.assertEqual(Program.read(str(together(net, house))), together(house=house, net=net))

    def test_refused(self):
        for value in STRANGE + [0, 3, "1", (), nested(30)]:
            self.raises(BadNet, {"part": "net"}, together, value, 0)
        for value in STRANGE + [-1, 3, 10 ** 30, (0,)]:
            self.raises(BadNumber, {"part": "house"}, together, ROW, value)
        self.raises_in_order(together, [ROW, 0], [(0, None, BadNet, {"part": "net"}), (1, 3, BadNumber, {"part": "house"})])


class Lockstep(Raising, unittest.TestCase):
    def check(self, net, one, other, inputs):
        screens = calm_screens(lockstep(net, one, other), net, inputs)
        self.assertEqual(screens, told_lockstep(net, one, other, inputs))
        return screens

    def test_small_nets(self):
        source = random.Random(184)
        for houses in range(2, 5):
            for net in all_nets(houses):
                one, other = source.sample(range(houses), 2)
                self.check(net, one, other, some_inputs(source, net, 30))
                self.check(net, other, one, some_inputs(source, net, 12))

    def test_large_nets(self):
        source = random.Random(185)
        for net in NETS + [some_net(source, source.choice((5, 6))) for _ in range(12)]:
            for one in range(net.houses):
                for other in range(net.houses):
                    if one != other:
                        self.check(net, one, other, some_inputs(source, net, 25))

    def test_pieces_that_meet(self):
        for net in (Net(2, [(0, 1)]), ROW, NETS[0]):
            for ways in ((1, 0), (-1, 0), (0, 1), (0, -1), (1, -1), (-1, 1), (1, 1), (-1, -1), (LEAST, MOST), (MOST, LEAST)):
                for one, other in ((0, 1), (1, 0)):
                    inputs = [[0] * 40 for _ in range(net.houses)]
                    inputs[one], inputs[other] = [ways[0]] * 40, [ways[1]] * 40
                    screen = self.check(net, one, other, inputs)[0]
                    self.assertNotIn(True, [here == there for here, there in zip(screen[::2], screen[1::2])])

    def test_few_rounds(self):
        for net in NETS:
            for many in range(8):
                self.check(net, 0, 4, [[1] * many for _ in range(net.houses)])

    def test_long_games(self):
        source = random.Random(186)
        for net in (NETS[0], NETS[2]):
            self.check(net, 5, 1, [[source.choice((-1, 0, 1)) for _ in range(1000)] for _ in range(6)])

    def test_programs(self):
        for net in NETS:
            for one in range(net.houses):
                for other in range(net.houses):
                    if one != other:
                        program = lockstep(net, one, other)
                        self.assertEqual(Program.read(str(program)), lockstep(other=other, one=one, net=net))

    def test_refused(self):
        for value in STRANGE + [0, 3, "1", (), nested(30)]:
            self.raises(BadNet, {"part": "net"}, lockstep, value, 0, 1)
        for value in STRANGE + [-1, 3, 10 ** 30, (0,)]:
            self.raises(BadNumber, {"part": "one"}, lockstep, ROW, value, 0)
            self.raises(BadNumber, {"part": "other"}, lockstep, ROW, 0, value)
        wrong = [(0, None, BadNet, {"part": "net"}), (1, 3, BadNumber, {"part": "one"}), (2, -1, BadNumber, {"part": "other"})]
        self.raises_in_order(lockstep, [ROW, 0, 1], wrong)
        for house in range(3):
            self.raises(Twice, {"value": house}, lockstep, ROW, house, house)
        self.raises(BadNumber, {"part": "one"}, lockstep, ROW, 3, 3)


if __name__ == "__main__":
    unittest.main()
