import random
import unittest

from fairweather.errors import BadNet, BadNumber, BadProgram, BadStanding, Unknown
from fairweather.nets import Net, places_of
from fairweather.programs import Program
from fairweather.rounds import next_standing, value_of
from fairweather.shorts import SIGNS, reckoned
from fairweather.standings import Standing, first_standing, is_standing
from fairweather.trees import parts_of, weight_of
from tests.helpers import STRANGE, Raising, listed, nested
from tests.making import ENDS, NAMES, deep_expression, expression, statements
from tests.telling import told_round, told_value

LEAST, MOST = -2147483648, 2147483647
ALONE, PAIR, ROW = Net(1, []), Net(2, [(0, 1)]), Net(3, [(0, 1), (1, 2)])
STAR = Net(6, [(0, 1), (0, 2), (0, 3), (0, 4), (0, 5)])
NETS = [ALONE, PAIR, ROW, STAR, Net(4, [(0, 1), (1, 2), (2, 3), (0, 3)])]
CELLS = [(name, 5) for name in NAMES]
TWO = Program([("a", 7), ("b", -8)], [])
MIDDLE = Standing(12, (40, 50), (1, 2), (3, 4), 20, (5, 6, 7))
SHOW = ("show", ("me",))


def parts(standing):
    return (standing.done, standing.cells, standing.new, standing.old, standing.base, standing.shown)


def some_seat(source, program):
    """A house of a net with a standing, words and an input."""
    net = source.choice(NETS)
    house = source.randrange(net.houses)
    many = len(places_of(net, house))
    words = [[source.choice(ENDS) for _ in range(many)] for _ in range(3)]
    standing = Standing(source.choice((0, 1, 7, 1000000000)), [source.choice(ENDS) for _ in program.cells], words[0], words[1],
                        source.choice((0, 5, 1000000000)), [1] * source.randrange(9))
    return net, house, standing, words[2], source.choice(ENDS)


class Values(Raising, unittest.TestCase):
    def middle(self, tree, heard=(11, 12), given=99):
        return value_of(TWO, ROW, 1, MIDDLE, heard, given, tree)

    def test_each_kind(self):
        for tree, value in ((("short", LEAST), LEAST), (("short", MOST), MOST), (("name", "a"), 40), (("name", "b"), 50),
                            (("me",), 1), (("many",), 2), (("houses",), 3), (("input",), 99), (("done",), 12),
                            (("heard", ("short", 0)), 11), (("heard", ("short", 1)), 12), (("heard", ("short", 2)), 0),
                            (("heard", ("short", -1)), 0), (("heard", ("short", LEAST)), 0), (("heard", ("short", MOST)), 0),
                            (("not", ("short", 0)), 1), (("not", ("short", 5)), 0), (("not", ("short", -1)), 0),
                            (("+", ("name", "b"), ("name", "a")), 90), (("-", ("name", "b"), ("me",)), 49)):
            for form in (tree, listed(tree)):
                self.assertEqual(self.middle(form), value, tree)
                self.assertEqual(self.middle(form, [11, 12]), value, tree)
        self.assertEqual(value_of(expression=("me",), given=1, heard=(), standing=first_standing(TWO, ALONE, 0), house=0,
                                  net=ALONE, program=TWO), 0)

    def test_signs(self):
        for sign in SIGNS:
            for one in ENDS:
                for other in ENDS:
                    self.assertEqual(self.middle((sign, ("short", one), ("input",)), given=other), reckoned(sign, one, other))

    def test_done_at_its_greatest(self):
        standing = Standing(1000000000, (0, 0), (0, 0), (0, 0), 0, ())
        self.assertEqual(value_of(TWO, ROW, 1, standing, [0, 0], 0, ("done",)), 1000000000)
        twice = ("*", ("done",), ("short", 3))
        self.assertEqual(value_of(TWO, ROW, 1, standing, [0, 0], 0, twice), 3000000000 - 4294967296)

    def test_against_the_trees(self):
        source = random.Random(8)
        program = Program(CELLS, [])
        for _ in range(600):
            net, house, standing, heard, given = some_seat(source, program)
            tree = expression(source, 7)
            value = value_of(program, net, house, standing, heard, given, tree)
            self.assertEqual(value, told_value(program, net, house, standing, heard, given, tree))
            self.assertTrue(LEAST <= value <= MOST)

    def test_the_deepest(self):
        self.assertEqual(self.middle(deep_expression(12)), 0)
        for depth in (13, 14, 29):
            self.raises(BadProgram, {"part": "expression"}, self.middle, deep_expression(depth))
        wide = ("me",)
        for _ in range(11):
            wide = ("+", wide, wide)
        self.assertEqual(self.middle(wide), 2048)
        for _ in range(18):
            wide = ("+", wide, wide)
        self.raises(BadProgram, {"part": "expression"}, self.middle, wide)

    def test_errors_in_order(self):
        for value in STRANGE + [0, (), [], SHOW, ("name",), ("name", "end"), ("you",), nested(30), [("me",)]]:
            self.raises(BadProgram, {"part": "expression"}, self.middle, value)
        self.raises(Unknown, {"name": "far"}, self.middle, ("+", ("name", "a"), ("-", ("name", "far"), ("name", "low"))))
        self.raises(Unknown, {"name": "low"}, self.middle, ("+", ("name", "low"), ("name", "far")))
        deep = ("+", ("name", "far"), deep_expression(12))
        self.raises(BadProgram, {"part": "expression"}, self.middle, deep)


class Rounds(Raising, unittest.TestCase):
    def round(self, body, net=ROW, house=1, heard=(11, 12), given=99, standing=None):
        """The standing behind a round of a body with the cells a, which holds 40, and b, which holds 50."""
        words = [0] * len(heard)
        standing = standing or Standing(4, (40, 50), words, words, 0, ())
        return next_standing(Program([("a", 7), ("b", -8)], body), net, house, standing, heard, given)

    def test_what_a_round_leaves(self):
        body = [("set", "a", ("input",)), ("say", ("me",), ("short", 1)), ("show", ("done",))]
        after = self.round(body, standing=MIDDLE)
        self.assertIs(type(after), Standing)
        self.assertEqual(parts(after), (13, (99, 50), (0, 1), (1, 2), 23, (12,)))
        self.assertEqual(parts(MIDDLE), (12, (40, 50), (1, 2), (3, 4), 20, (5, 6, 7)))
        self.assertEqual(parts(self.round([], standing=after)), (14, (99, 50), (0, 0), (0, 1), 24, ()))
        after = next_standing(given=1, heard=[], standing=first_standing(TWO, ALONE, 0), house=0, net=ALONE, program=TWO)
        self.assertEqual(parts(after), (1, (7, -8), (), (), 0, ()))

    def test_set(self):
        after = self.round([("set", "a", ("+", ("name", "a"), ("name", "b"))), ("set", "b", ("name", "a"))])
        self.assertEqual(after.cells, (90, 90))

    def test_if(self):
        body = [("if", ("input",), [("show", ("short", 1)), ("show", ("short", 2))], [("show", ("short", 3))]), SHOW]
        self.assertEqual([self.round(body, given=given).shown for given in (1, 0, -1)], [(1, 2, 1), (3, 1), (1, 2, 1)])
        for yes, no in (([], [SHOW]), ([SHOW], [])):
            body = [("if", ("input",), yes, no)]
            self.assertEqual([len(self.round(body, given=given).shown) for given in (5, 0)], [len(yes), len(no)])

    def test_if_asks_once(self):
        body = [("if", ("name", "a"), [("set", "a", ("short", 0)), ("show", ("short", 1))], [("show", ("short", 2))])]
        self.assertEqual(self.round(body).shown, (1,))

    def test_each(self):
        body = [("each", "a", [("show", ("name", "a")), ("show", ("heard", ("name", "a")))]), ("show", ("name", "a"))]
        self.assertEqual(self.round(body).shown, (0, 11, 1, 12, 1))
        self.assertEqual(self.round(body, PAIR, 0, [5]).shown, (0, 5, 0))
        self.assertEqual(self.round(body, ALONE, 0, []).shown, (40,))
        self.assertEqual(self.round(body, STAR, 0, [1, 2, 3, 4, 5]).cells, (4, 50))

    def test_each_goes_on_by_itself(self):
        body = [("each", "a", [("set", "b", ("+", ("name", "b"), ("name", "a"))), ("set", "a", ("short", 9))])]
        self.assertEqual(self.round(body).cells, (9, 51))
        within = [("each", "a", [("each", "a", [("show", ("name", "a"))]), ("show", ("name", "a"))])]
        self.assertEqual(self.round(within).shown, (0, 1, 1, 0, 1, 1))
        self.assertEqual(self.round([("each", "a", [])]).cells, (1, 50))

    def test_times(self):
        for count in range(10):
            body = [("times", count, [("set", "a", ("+", ("name", "a"), ("short", 1)))])]
            self.assertEqual(self.round(body).cells, (40 + count, 50))
        body = [("times", 3, [("times", 4, [("set", "a", ("+", ("name", "a"), ("short", 1)))]), SHOW])]
        self.assertEqual((self.round(body).cells, self.round(body).shown), ((52, 50), (1, 1, 1)))

    def test_words_said_twice_and_to_no_place(self):
        def say(value, place):
            return ("say", ("short", value), ("short", place))
        for body, new in (([say(5, 0)], (5, 0)), ([say(5, 1)], (0, 5)), ([say(5, 0), say(6, 0)], (6, 0)),
                          ([say(5, 0), say(0, 0)], (0, 0)), ([say(5, 2)], (0, 0)), ([say(5, -1)], (0, 0)), ([], (0, 0)),
                          ([say(5, -2), say(7, LEAST), say(8, MOST)], (0, 0)), ([say(1, 1), say(2, 0), say(3, 2)], (2, 1)),
                          ([("say", ("name", "a"), ("-", ("input",), ("short", 98)))], (0, 40)),
                          ([("each", "a", [("say", ("name", "b"), ("name", "a"))])], (50, 50))):
            self.assertEqual(self.round(body).new, new)
        self.assertEqual(self.round([say(5, 0)], ALONE, 0, []).new, ())
        self.assertEqual(self.round([say(7, 4), say(8, 5)], STAR, 0, [0] * 5).new, (0, 0, 0, 0, 7))

    def test_the_ninth_showing(self):
        for many in range(12):
            body = [("show", ("short", number)) for number in range(many)]
            self.assertEqual(self.round(body).shown, tuple(range(min(many, 8))))
        body = [("times", 9, [("show", ("name", "a")), ("set", "a", ("+", ("name", "a"), ("short", 1)))])]
        self.assertEqual((self.round(body).shown, self.round(body).cells), (tuple(range(40, 48)), (49, 50)))
        after = self.round([SHOW], standing=Standing(1, (0, 0), (0, 0), (0, 0), 30, [1] * 8))
        self.assertEqual((after.base, after.shown), (38, (1,)))

    def test_at_the_greatest_numbers(self):
        standing = Standing(1000000000, (0, 0), (0, 0), (0, 0), 1000000000, [1] * 8)
        self.assertEqual(parts(self.round([], standing=standing)), (1000000001, (0, 0), (0, 0), (0, 0), 1000000008, ()))

    def test_against_the_trees(self):
        source = random.Random(9)
        done = 0
        while done < 400:
            body = sum([statements(source, 7) for _ in range(3)], ())
            if parts_of(body) > 200 or weight_of(body) > 1000:
                continue
            done += 1
            program = Program(CELLS, body)
            net, house, standing, heard, given = some_seat(source, program)
            after = next_standing(program, net, house, standing, heard, given)
            self.assertEqual(parts(after), told_round(program, net, house, standing, heard, given))
            self.assertTrue(is_standing(program, net, house, Standing(0, after.cells, after.new, after.old, 0, after.shown)))

    def test_errors_in_order(self):
        for function, more in ((value_of, [("you",)]), (next_standing, [])):
            def refused(kind, part, *values):
                self.raises(kind, {"part": part}, function, *values, *[None] * (6 - len(values)), *more)
            for value in STRANGE + [0, "cells round end"]:
                refused(BadProgram, "program", value)
                refused(BadNet, "net", TWO, value)
            for value in STRANGE + [-1, 3, [1]]:
                refused(BadNumber, "house", TWO, ROW, value)
            for value in STRANGE + [0, parts(MIDDLE), first_standing(TWO, ROW, 0), first_standing(Program([], []), ROW, 1),
                                    Standing(-1, (40, 50), (1, 2), (3, 4), 20, ()), Standing(1, (1, 2), (1, 2), (3, 4), 0, [0] * 9)]:
                refused(BadStanding, "standing", TWO, ROW, 1, value)
            for value in STRANGE + [0, [], [1], [1, 2, 3], (1, True), (1, MOST + 1), [LEAST - 1, 0], [None, 1], [[1], 1]]:
                refused(BadNumber, "heard", TWO, ROW, 1, MIDDLE, value)
            for value in STRANGE + [MOST + 1, LEAST - 1, [1], (1,)]:
                refused(BadNumber, "given", TWO, ROW, 1, MIDDLE, (1, 2), value)


if __name__ == "__main__":
    unittest.main()
