import random
import unittest

from fairweather.calm import calm_run, calm_screens, is_beginning, screen_of
from fairweather.errors import BadNet, BadNumber, BadProgram, BadStanding
from fairweather.nets import Net, distance, place_of, places_of
from fairweather.programs import Program
from fairweather.rounds import next_standing
from fairweather.standings import Standing, first_standing
from fairweather.trees import parts_of, weight_of
from tests.helpers import STRANGE, Raising, nested
from tests.making import ENDS, NAMES, heavy_body, statements

NETS = [Net(1, []), Net(2, [(0, 1)]), Net(3, [(0, 1), (1, 2)]), Net(3, [(0, 1), (0, 2), (1, 2)]),
        Net(4, [(0, 2), (1, 2), (2, 3)]), Net(5, [(0, 1), (1, 2), (2, 3), (3, 4), (0, 4)]),
        Net(6, [(0, 1), (1, 2), (2, 3), (3, 4), (4, 5)]), Net(6, [(a, b) for b in range(6) for a in range(b)])]
PAIR = NETS[1]
CELLS = [(name, 5) for name in NAMES]
NONE = Program([], [])
MIX = Program.read("cells sum 3 at 0 round each at do sum := ( ( sum * 31 ) + heard at ) say ( sum + at ) to at end "
                   "sum := ( sum - input ) show sum show done if ( input < 0 ) then show input end end")
TALLY = Program.read("cells n 0 round n := ( n + input ) show n end")


def told_run(program, net, inputs):
    """The calm run, house by house, each round worked out from its own needs alone."""
    houses = range(net.houses)
    known = {(house, 0): first_standing(program, net, house) for house in houses}
    rounds = [min(len(inputs[other]) + distance(net, house, other) for other in houses) for house in houses]
    for k in range(max(rounds)):
        for house in houses:
            if k < rounds[house]:
                heard = [known[other, k].new[place_of(net, other, house)] for other in places_of(net, house)]
                known[house, k + 1] = next_standing(program, net, house, known[house, k], heard, inputs[house][k])
    return tuple(tuple(known[house, k] for k in range(rounds[house] + 1)) for house in houses)


class CalmRuns(Raising, unittest.TestCase):
    def test_against_another_order(self):
        source = random.Random(10)
        for net in NETS:
            for turn in range(12):
                inputs = [[source.choice(ENDS) for _ in range(source.choice((0, 1, 2, 3, 9)[turn % 5:]))]
                          for _ in range(net.houses)]
                ran = calm_run(MIX, net, inputs)
                self.assertEqual(ran, told_run(MIX, net, inputs))
                self.assertIs(type(ran), tuple)
                self.assertTrue(all(type(house) is tuple for house in ran))

    def test_some_programs(self):
        source = random.Random(11)
        done = 0
        while done < 40:
            body = sum([statements(source, 6) for _ in range(4)], ())
            if parts_of(body) > 200 or weight_of(body) > 1000:
                continue
            done += 1
            net = source.choice(NETS)
            inputs = [[source.choice(ENDS) for _ in range(source.randrange(5))] for _ in range(net.houses)]
            program = Program(CELLS, body)
            self.assertEqual(calm_run(program, net, inputs), told_run(program, net, inputs))

    def test_how_many_rounds(self):
        source = random.Random(12)
        for net in NETS:
            houses = range(net.houses)
            for _ in range(25):
                many = [source.randrange(8) for _ in houses]
                ran = calm_run(NONE, net, [[0] * one for one in many])
                rounds = [len(house) - 1 for house in ran]
                self.assertEqual(rounds, [min(many[other] + distance(net, one, other) for other in houses) for one in houses])
                self.assertEqual([[one.done for one in house] for house in ran], [list(range(one + 1)) for one in rounds])

    def test_unlike_lengths(self):
        row = NETS[2]
        for many, rounds in (((0, 0, 0), [0, 0, 0]), ((0, 9, 9), [0, 1, 2]), ((9, 0, 9), [1, 0, 1]), ((9, 9, 0), [2, 1, 0]),
                             ((5, 9, 3), [5, 4, 3]), ((1, 9, 9), [1, 2, 3]), ((9, 3, 1), [3, 2, 1])):
            self.assertEqual([len(house) - 1 for house in calm_run(NONE, row, [[0] * one for one in many])], rounds)

    def test_what_is_heard(self):
        program = Program.read("cells round say ( input + 1 ) to 0 show heard 0 show done end")
        self.assertEqual(calm_screens(program, PAIR, [[10, 20, 30], [-1, -2, -3]]), ((0, 0, 0, 1, -1, 2), (0, 0, 11, 1, 21, 2)))
        program = Program.read("cells at 0 round each at do say ( ( me * 10 ) + at ) to at show heard at end end")
        self.assertEqual(calm_screens(program, NETS[4], [[0, 0]] * 4), ((0, 20), (0, 21), (0, 0, 0, 0, 10, 30), (0, 22)))

    def test_base_and_old(self):
        ran = calm_run(MIX, NETS[3], [[1, -2, 3, -4]] * 3)
        for house in ran:
            for k in range(1, len(house)):
                self.assertEqual(house[k].base, len(screen_of(house[:k])))
                self.assertEqual(house[k].old, house[k - 1].new)

    def test_beginnings_of_inputs(self):
        source = random.Random(13)
        for net in NETS:
            inputs = [[source.choice(ENDS) for _ in range(6)] for _ in range(net.houses)]
            whole = calm_run(MIX, net, inputs)
            for _ in range(5):
                part = calm_run(MIX, net, [given[:source.randrange(7)] for given in inputs])
                for short, long in zip(part, whole):
                    self.assertEqual(short, long[:len(short)])

    def test_long_ones(self):
        net = NETS[-1]
        inputs = [[(house + 1) * k for k in range(1500)] for house in range(6)]
        screens = calm_screens(MIX, net, inputs)
        self.assertEqual([len(screen) for screen in screens], [3000] * 6)
        heavy = Program(CELLS, heavy_body(1000))
        self.assertEqual([len(house) for house in calm_run(heavy, net, inputs)], [1501] * 6)
        self.assertEqual(calm_screens(TALLY, NETS[0], [[1] * 10000])[0], tuple(range(1, 10001)))

    def test_lists_and_tuples_and_names(self):
        told = calm_run(TALLY, PAIR, [[1, 2], [3]])
        self.assertEqual(calm_run(inputs=((1, 2), (3,)), net=PAIR, program=TALLY), told)
        self.assertEqual(calm_screens(inputs=([1, 2], (3,)), net=PAIR, program=TALLY), ((1, 3), (3,)))
        self.assertEqual(calm_screens(TALLY, PAIR, [[], []]), ((), ()))

    def test_inputs_stay_as_they_are(self):
        inputs = [[1, 2], [3, 4]]
        calm_run(TALLY, PAIR, inputs)
        self.assertEqual(inputs, [[1, 2], [3, 4]])

    def test_errors_in_order(self):
        for function in (calm_run, calm_screens):
            for value in STRANGE + [0, "cells round end"]:
                self.raises(BadProgram, {"part": "program"}, function, value, None, None)
                self.raises(BadNet, {"part": "net"}, function, NONE, value, None)
            for value in STRANGE + [0, [], [[]], [[], [], []], [1, 2], [[1], 2], [[1], None], [[1], [True]], [[1], [2147483648]],
                                    [[-2147483649], []], [[1], "1"], [[[1]], [1]], [[1.0], [1]], nested(30), ["", ""]]:
                self.raises(BadNumber, {"part": "inputs"}, function, NONE, PAIR, value)


class Screens(Raising, unittest.TestCase):
    def test_screen_of(self):
        made = [Standing(None, 0, 0, 0, 0, shown) for shown in ([1, 2], [], [3], [4] * 20)]
        self.assertEqual(screen_of(made), (1, 2, 3) + (4,) * 20)
        self.assertEqual(screen_of(tuple(made[:1])), (1, 2))
        self.assertEqual((screen_of([]), screen_of(()), screen_of(standings=made[1:2])), ((), (), ()))

    def test_screen_of_refuses(self):
        good = Standing(0, 0, 0, 0, 0, ())
        for value in STRANGE + [0, good, [None], [good, 5], [[good]], [()], nested(30)]:
            self.raises(BadStanding, {"part": "standings"}, screen_of, value)
        for shown in STRANGE + [0, [True], [1, 2147483648], [-2147483649], [[1]], ["1"], [None]]:
            self.raises(BadStanding, {"part": "standings"}, screen_of, [good, Standing(0, 0, 0, 0, 0, shown)])

    def test_is_beginning(self):
        for one, other in (((), ()), ((), (1,)), ((1,), (1,)), ((1, 2), (1, 2, 3)), ((0, 0), (0, 0, 0)), ((5,) * 99, (5,) * 100)):
            self.assertIs(is_beginning(one, other), True)
            self.assertIs(is_beginning(list(one), other), True)
            self.assertIs(is_beginning(one, list(other)), True)
        for one, other in (((1,), ()), ((1, 2), (1,)), ((2,), (1, 2)), ((1, 3), (1, 2, 3)), ((0, 0, 0), (0, 0)), ((1, 2), (2, 1))):
            self.assertIs(is_beginning(one, other), False)
            self.assertIs(is_beginning(list(one), other), False)
        self.assertIs(is_beginning(other=[1], one=[]), True)

    def test_is_beginning_refuses(self):
        for value in STRANGE + [0, [True], [2147483648], (1, None), [[1]], ["1"], nested(30)]:
            self.raises(BadNumber, {"part": "one"}, is_beginning, value, value)
            self.raises(BadNumber, {"part": "one"}, is_beginning, value, [])
            self.raises(BadNumber, {"part": "other"}, is_beginning, [], value)


if __name__ == "__main__":
    unittest.main()
