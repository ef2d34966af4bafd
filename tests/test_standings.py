import unittest

from fairweather.errors import BadNet, BadNumber, BadProgram
from fairweather.nets import Net
from fairweather.programs import Program
from fairweather.standings import Standing, first_standing, is_standing
from tests.helpers import STRANGE, Raising, nested

LEAST, MOST = -2147483648, 2147483647
FIELDS = ("done", "cells", "new", "old", "base", "shown")
TWO = Program([("a", 7), ("b", -8)], [])
NONE = Program([], [])
ALONE, PAIR, ROW = Net(1, []), Net(2, [(0, 1)]), Net(3, [(0, 1), (1, 2)])
STAR = Net(6, [(0, 1), (0, 2), (0, 3), (0, 4), (0, 5)])
RIGHT = {"done": 3, "cells": (1, 2), "new": (3, 4), "old": (5, 6), "base": 9, "shown": (1,)}


class Standings(unittest.TestCase):
    def test_any_values_are_kept(self):
        for value in STRANGE + [0, -5, 10 ** 30, "text"]:
            standing = Standing(*[value] * 6)
            for field in FIELDS:
                self.assertIs(getattr(standing, field), value)

    def test_lists_become_tuples(self):
        for at, field in enumerate(FIELDS):
            values = [0] * 6
            values[at] = [1, (2, [3, {}])]
            self.assertEqual(getattr(Standing(*values), field), (1, (2, (3, {}))))
            self.assertEqual(getattr(Standing(**dict(zip(FIELDS, values))), field), (1, (2, (3, {}))))

    def test_what_is_changed_later_changes_nothing(self):
        inner = [1]
        outer = [inner]
        standing = Standing(outer, inner, outer, inner, outer, inner)
        inner.append(2)
        outer.append(3)
        for field in FIELDS:
            self.assertIn(getattr(standing, field), (((1,),), (1,)))

    def test_equality(self):
        self.assertIs(Standing(**RIGHT) == Standing(3, [1, 2], [3, 4], [5, 6], 9, [1]), True)
        self.assertIs(Standing(**RIGHT) != Standing(**RIGHT), False)
        for field in FIELDS:
            for value in (None, 77, (7, 7)):
                self.assertIs(Standing(**RIGHT) == Standing(**{**RIGHT, field: value}), False, field)
        for value in STRANGE + [tuple(RIGHT.values()), RIGHT]:
            self.assertIs(Standing(**RIGHT) == value, False)


class RightStandings(Raising, unittest.TestCase):
    def check(self, held, **changes):
        self.assertIs(is_standing(TWO, ROW, 1, Standing(**{**RIGHT, **changes})), held, changes)

    def test_bounds(self):
        self.check(True)
        self.assertIs(is_standing(value=Standing(**RIGHT), house=1, net=ROW, program=TWO), True)
        for field in ("done", "base"):
            for value in (0, 1, 1000000000):
                self.check(True, **{field: value})
            for value in STRANGE + [-1, 1000000001, (), (1,)]:
                self.check(False, **{field: value})
        for field in ("cells", "new", "old"):
            for value in ((LEAST, MOST), [0, 0]):
                self.check(True, **{field: value})
        for value in ((), [LEAST], (MOST,) * 8, list(range(8))):
            self.check(True, shown=value)
        self.check(False, shown=(0,) * 9)
        for field in ("cells", "new", "old", "shown"):
            for value in STRANGE + [0, (LEAST - 1, 0), (0, MOST + 1), (True, 0), (0, False), (0, None), ((0,), 0), (0, "1"),
                                    (1.0, 0), nested(30)]:
                self.check(False, **{field: value})
        for field in ("cells", "new", "old"):
            for value in ((), (0,), (0, 0, 0)):
                self.check(False, **{field: value})

    def test_as_many_as_program_and_house_have(self):
        for program, cells in ((NONE, 0), (TWO, 2)):
            for net, house, many in ((ALONE, 0, 0), (PAIR, 0, 1), (PAIR, 1, 1), (ROW, 0, 1), (ROW, 1, 2), (STAR, 0, 5),
                                     (STAR, 5, 1)):
                for given in range(4):
                    for places in range(7):
                        standing = Standing(0, [1] * given, [0] * places, [0] * places, 0, [])
                        held = given == cells and places == many
                        self.assertIs(is_standing(program, net, house, standing), held)

    def test_other_values(self):
        for value in STRANGE + [(3, (1, 2), (3, 4), (5, 6), 9, (1,)), RIGHT, [], nested(30)]:
            self.assertIs(is_standing(TWO, ROW, 1, value), False)

    def test_first_standing(self):
        for program, cells in ((NONE, ()), (TWO, (7, -8))):
            for net, house, many in ((ALONE, 0, 0), (PAIR, 1, 1), (ROW, 1, 2), (ROW, 2, 1), (STAR, 0, 5)):
                first = first_standing(program, net, house)
                self.assertIs(type(first), Standing)
                self.assertEqual((first.done, first.cells, first.base, first.shown), (0, cells, 0, ()))
                self.assertEqual((first.new, first.old), ((0,) * many, (0,) * many))
                self.assertIs(is_standing(program, net, house, first), True)
        self.assertEqual(first_standing(house=0, net=ALONE, program=NONE), Standing(0, [], [], [], 0, []))

    def test_errors_in_order(self):
        for function, more in ((is_standing, [None]), (first_standing, [])):
            for value in STRANGE + [0, "cells round end", ((), ())]:
                self.raises(BadProgram, {"part": "program"}, function, value, None, None, *more)
            for value in STRANGE + [0, "1", (1, ()), TWO]:
                self.raises(BadNet, {"part": "net"}, function, TWO, value, None, *more)
            for value in STRANGE + [-1, 3, 10 ** 20, [1], (1,)]:
                self.raises(BadNumber, {"part": "house"}, function, TWO, ROW, value, *more)


if __name__ == "__main__":
    unittest.main()
