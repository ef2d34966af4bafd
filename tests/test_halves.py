import random
import unittest

from fairweather.errors import BadNet, BadNumber, BadProgram, BadStanding
from fairweather.halves import first_disk, half_pairs, standing_in
from fairweather.nets import Net, places_of
from fairweather.programs import Program
from fairweather.standings import Standing, first_standing
from tests.helpers import STRANGE, Raising, nested
from tests.making import ENDS

LEAST, MOST = -2147483648, 2147483647
TWO = Program([("a", 7), ("b", -8)], [])
NONE = Program([], [])
EIGHT = Program([(name, at) for at, name in enumerate("abcdefgh")], [])
ALONE, PAIR, ROW = Net(1, []), Net(2, [(0, 1)]), Net(3, [(0, 1), (1, 2)])
STAR = Net(6, [(0, 1), (0, 2), (0, 3), (0, 4), (0, 5)])
MIDDLE = Standing(7, (40, 50), (1, 2), (3, 4), 20, (5, 6, 7))
NO_DISKS = STRANGE + [0, (1, 2), [()], [(1,)], [(1, 2, 3)], [(-1, 0)], [(200, 0)], [(0, MOST + 1)], [(True, 0)], [(0, False)],
                      [("0", 0)], [(0, 0), None], [[(0, 0)]], nested(30)]


def some_standing(source, program, net, house):
    many = len(places_of(net, house))
    words = [[source.choice(ENDS) for _ in range(many)] for _ in range(2)]
    return Standing(source.choice((0, 1, 63, 64, 65, 10 ** 9)), [source.choice(ENDS) for _ in program.cells], *words,
                    source.choice((0, 9, 10 ** 9)), [source.choice(ENDS) for _ in range(source.randrange(9))])


class Halves(Raising, unittest.TestCase):
    def test_pairs(self):
        told = ((20, 7), (21, 1), (22, 20), (23, 3), (24, 5), (25, 6), (26, 7), (27, 0), (28, 0), (29, 0), (30, 0), (31, 0),
                (40, 1), (41, 2), (50, 3), (51, 4), (60, 40), (61, 50))
        self.assertEqual(half_pairs(TWO, ROW, 1, MIDDLE, 3, 0), told)
        self.assertEqual(half_pairs(TWO, ROW, 1, MIDDLE, 3, 1), tuple((at + 80, short) for at, short in told))
        self.assertEqual(half_pairs(half=0, m=3, standing=MIDDLE, house=1, net=ROW, program=TWO), told)
        for m in range(2, 65):
            self.assertEqual(half_pairs(TWO, ROW, 1, MIDDLE, m, 0)[1], (21, 7 % m))

    def test_how_many_pairs(self):
        for program, cells in ((NONE, 0), (TWO, 2), (EIGHT, 8)):
            for net, house, many in ((ALONE, 0, 0), (PAIR, 1, 1), (STAR, 0, 5), (STAR, 3, 1)):
                for shown in range(9):
                    standing = Standing(1, [9] * cells, [8] * many, [7] * many, 0, [6] * shown)
                    pairs = half_pairs(program, net, house, standing, 64, 1)
                    addresses = [*range(100, 112), *range(120, 120 + many), *range(130, 130 + many), *range(140, 140 + cells)]
                    self.assertEqual([at for at, _ in pairs], addresses)
                    self.assertEqual([short for _, short in pairs], [1, 1, 0, shown, *[6] * shown, *[0] * (8 - shown),
                                                                     *[8] * many, *[7] * many, *[9] * cells])

    def test_read_back(self):
        source = random.Random(61)
        for _ in range(400):
            program = source.choice((NONE, TWO, EIGHT))
            net = source.choice((ALONE, PAIR, ROW, STAR))
            house = source.randrange(net.houses)
            m, half = source.randrange(2, 65), source.randrange(2)
            standing, other = [some_standing(source, program, net, house) for _ in range(2)]
            turning = source.choice([short for short in ENDS if short]) if half else 0
            pairs = [(0, turning), *half_pairs(program, net, house, standing, m, half)]
            self.assertEqual(standing_in(program, net, house, pairs), standing)
            # The other half, and what lies elsewhere, does not matter; nor the order, if no address is told twice.
            pairs += half_pairs(program, net, house, other, m, 1 - half)
            pairs += [(at, source.choice(ENDS)) for at in (1, 5, 19, 32, 39, 45, 49, 55, 59, 68, 99, 112, 119, 125, 148, 180, 199)]
            source.shuffle(pairs)
            told = standing_in(program, net, house, [list(pair) for pair in pairs])
            self.assertEqual(told, standing)
            self.assertIs(type(told), Standing)
            # Of two pairs with one address the last one counts.
            again = half_pairs(program, net, house, other, m, half)
            self.assertEqual(standing_in(program, net, house, pairs + list(again)), other)

    def test_what_was_never_written_is_0(self):
        for disk in ([], (), [(0, 0)], [(0, 1)], [(0, -1), (20, 5), (60, 3)]):
            told = standing_in(TWO, ROW, 1, disk)
            self.assertEqual(told, Standing(0, (0, 0), (0, 0), (0, 0), 0, ()))

    def test_the_half_that_counts(self):
        disk = [(20, 5), (100, 6)]
        for turning in ENDS:
            self.assertEqual(standing_in(NONE, ALONE, 0, [*disk, (0, turning)]).done, 6 if turning else 5)
        self.assertEqual(standing_in(NONE, ALONE, 0, disk).done, 5)
        self.assertEqual(standing_in(NONE, ALONE, 0, [(0, 1), *disk, (0, 0)]).done, 5)
        self.assertEqual(standing_in(NONE, ALONE, 0, [(0, 0), *disk, (0, 9), (100, 7)]).done, 7)

    def test_how_many_were_shown(self):
        shown = [(24 + at, 30 + at) for at in range(9)]
        for count in [*range(-2, 11), *ENDS]:
            told = standing_in(NONE, PAIR, 0, [(23, count), *shown])
            self.assertEqual(told.shown, tuple(range(30, 30 + min(8, max(0, count)))))

    def test_any_shorts(self):
        told = standing_in(TWO, PAIR, 0, [(20, -5), (21, 9), (22, LEAST), (40, MOST), (50, LEAST), (61, -1)])
        self.assertEqual((told.done, told.base, told.new, told.old, told.cells), (-5, LEAST, (MOST,), (LEAST,), (0, -1)))

    def test_first_disk(self):
        self.assertEqual(first_disk(TWO, ROW, 1), ((0, 0), *[(at, 0) for at in range(20, 32)], (40, 0), (41, 0), (50, 0), (51, 0),
                                                   (60, 7), (61, -8)))
        self.assertEqual(first_disk(house=0, net=ALONE, program=NONE), ((0, 0), *[(at, 0) for at in range(20, 32)]))
        for program in (NONE, TWO, EIGHT):
            for net in (ALONE, PAIR, ROW, STAR):
                for house in range(net.houses):
                    disk = first_disk(program, net, house)
                    first = first_standing(program, net, house)
                    self.assertEqual(standing_in(program, net, house, disk), first)
                    for m in (2, 3, 64):
                        self.assertEqual(disk, ((0, 0), *half_pairs(program, net, house, first, m, 0)))

    def test_refused(self):
        calls = ((half_pairs, [TWO, ROW, 1, MIDDLE, 3, 0]), (standing_in, [TWO, ROW, 1, []]), (first_disk, [TWO, ROW, 1]))
        for function, good in calls:
            for value in STRANGE + [0, "cells round end", "1"]:
                self.raises(BadProgram, {"part": "program"}, function, value, *good[1:])
                self.raises(BadNet, {"part": "net"}, function, TWO, value, *good[2:])
            for value in STRANGE + [-1, 3, (0,)]:
                self.raises(BadNumber, {"part": "house"}, function, TWO, ROW, value, *good[3:])
        for value in STRANGE + [0, Standing(7, (40,), (1, 2), (3, 4), 20, ()), Standing(-1, (4, 5), (1, 2), (3, 4), 20, ()),
                                Standing(7, (40, 50), (1,), (3,), 20, ()), Standing(7, (4, 5), (1, 2), (3, 4), 2, [1] * 9)]:
            self.raises(BadStanding, {"part": "standing"}, half_pairs, TWO, ROW, 1, value, 3, 0)
        for value in STRANGE + [1, 65, 0, -3, 10 ** 30, (3,)]:
            self.raises(BadNumber, {"part": "m"}, half_pairs, TWO, ROW, 1, MIDDLE, value, 0)
        for value in STRANGE + [2, -1, (0,)]:
            self.raises(BadNumber, {"part": "half"}, half_pairs, TWO, ROW, 1, MIDDLE, 3, value)
        for value in NO_DISKS:
            if value != ():
                self.raises(BadNumber, {"part": "disk"}, standing_in, TWO, ROW, 1, value)

    def test_the_order_of_errors(self):
        wrong = [(0, None, BadProgram, {"part": "program"}), (1, None, BadNet, {"part": "net"}),
                 (2, 3, BadNumber, {"part": "house"})]
        self.raises_in_order(first_disk, [TWO, ROW, 1], wrong)
        self.raises_in_order(standing_in, [TWO, ROW, 1, []], wrong + [(3, None, BadNumber, {"part": "disk"})])
        self.raises_in_order(half_pairs, [TWO, ROW, 1, MIDDLE, 3, 0],
                             wrong + [(3, None, BadStanding, {"part": "standing"}), (4, 1, BadNumber, {"part": "m"}),
                                      (5, 2, BadNumber, {"part": "half"})])


if __name__ == "__main__":
    unittest.main()
