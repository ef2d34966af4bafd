import random
import unittest

from fairweather.codes import Code
from fairweather.computers import Computer
from fairweather.errors import BadNet, BadNumber, BadProgram, Unknown
from fairweather.nets import Net, places_of
from fairweather.programs import Program
from fairweather.rounds import next_standing
from fairweather.standings import Standing
from fairweather.statements import round_code, statement_code
from fairweather.trees import depth_of, parts_of, weight_of
from tests.helpers import STRANGE, Raising, listed, nested
from tests.making import ENDS, NAMES, deep_expression, expression, heavy_body, long_body, statement
from tests.running import Running, some_memory
from tests.telling import House

LEAST, MOST = -2147483648, 2147483647
ALONE, PAIR, ROW = Net(1, []), Net(2, [(0, 1)]), Net(3, [(0, 1), (1, 2)])
STAR = Net(6, [(0, 1), (0, 2), (0, 3), (0, 4), (0, 5)])
NETS = [ALONE, PAIR, ROW, Net(4, [(0, 1), (0, 2), (0, 3)]), Net(5, [(0, 4), (1, 4), (2, 4), (3, 4)]), STAR]
EIGHT = NAMES + ("b", "c", "d", "e")
CELLS = [(name, 5) for name in EIGHT]
PROGRAM = Program(CELLS, [])
SHOW = ("show", ("me",))
A, ONE = ("name", "a"), ("short", 1)
GROW = ("set", "a", ("+", A, ONE))


def within(levels, inner, words, count=1):
    """So many of each and times, as the words tell by turns, around a statement."""
    for at in range(levels):
        word = words[at % len(words)]
        inner = (word, EIGHT[at % 8] if word == "each" else count, (inner,))
    return inner


class Codes(Running, Raising, unittest.TestCase):
    def told(self, net, house, body, memory):
        """The memory behind statements, as the trees tell it."""
        many = len(places_of(net, house))
        one = House(PROGRAM, net, house, Standing(memory[21], memory[:8], (), (), 0, ()), memory[10:10 + many], memory[20])
        one.said = {place: memory[30 + place] for place in range(many)}
        one.do(body)
        after = list(memory)
        after[:8] = one.cells.values()
        after[30:30 + many] = one.said.values()
        shown = one.shown[:8 - memory[40]]
        after[41 + memory[40]:41 + memory[40] + len(shown)] = shown
        after[40] += len(shown)
        return after

    def check(self, net, house, tree, start=0, memory=None, stack=()):
        """Runs code of a statement, and compares what it does with what the trees tell; returns the memory behind it."""
        memory = list(memory or [0] * 1000)
        rows = statement_code(PROGRAM, net, house, tree, start)
        self.check_rows(rows, parts_of([tree]))
        after, shorts = self.run_rows(rows, start, memory, stack, 40 * weight_of([tree]))
        self.assertEqual(shorts, list(stack))
        self.same_memory(after, self.told(net, house, [tree], memory))
        return after

    def test_set(self):
        memory = list(range(1000, 2000))
        memory[40] = 3
        for at, name in enumerate(EIGHT):
            for stack in ((), range(900)):
                after = self.check(ROW, 1, ("set", name, ("-", ("input",), ("name", name))), 0, memory, stack)
                self.assertEqual(after[at], 1020 - 1000 - at)

    def test_if(self):
        grow, set_far = GROW, ("set", "far", ("short", 9))
        for asked in ENDS:
            for yes, no in (([grow], [set_far]), ([grow], []), ([], [set_far]), ([], []), ([grow, grow], [set_far, grow])):
                after = self.check(ROW, 1, ("if", ("short", asked), yes, no), 7)
                self.assertEqual(after[0], (yes if asked else no).count(grow))
                self.assertEqual(after[1], 9 * (yes if asked else no).count(set_far))

    def test_each(self):
        for net in NETS:
            for house in range(net.houses):
                many = len(places_of(net, house))
                memory = [0] * 1000
                memory[:3] = [-5, 6, 7]
                for body in ([], [("set", "far", ("+", ("name", "far"), ("+", ONE, A)))],
                             [("set", "a", ("short", LEAST)), ("set", "far", ("+", ("name", "far"), ONE))]):
                    after = self.check(net, house, ("each", "a", body), 3, memory, [8, 9])
                    held = LEAST if len(body) == 2 else many - 1
                    self.assertEqual(after[0], held if many else -5)
                    told = (0, many * (many + 1) // 2, many)[len(body)]
                    self.assertEqual(after[1], 6 + told)

    def test_times(self):
        for count in range(10):
            self.assertEqual(self.check(ROW, 1, ("times", count, [GROW]))[0], count)
            self.check(ROW, 1, ("times", count, []), 10000, None, range(900))
            self.assertEqual(self.check(ROW, 1, ("times", count, [("times", 9 - count, [GROW])]))[0], count * (9 - count))

    def test_say(self):
        memory = [0] * 1000
        memory[30:40] = range(500, 510)
        for net in NETS:
            for house in range(net.houses):
                many = len(places_of(net, house))
                for place in [*range(-2, 8), 20, 960, -1000, *ENDS]:
                    after = self.check(net, house, ("say", ("short", 77), ("short", place)), 0, memory)
                    self.assertEqual(after[30:40], [77 if at == place and at < many else 500 + at for at in range(10)])
        twice = ("times", 2, [("say", A, ("me",)), GROW])
        self.assertEqual(self.check(STAR, 0, twice)[30:35], [1, 0, 0, 0, 0])

    def test_show(self):
        for shown in range(9):
            memory = [0] * 1000
            memory[40:50] = [shown, *range(600, 609)]
            after = self.check(ROW, 1, ("show", ("short", 5)), 0, memory, range(900))
            told = list(range(600, 609))
            if shown < 8:
                told[shown] = 5
            self.assertEqual(after[40:50], [min(shown + 1, 8), *told])
            after = self.check(ROW, 1, ("times", 9, [("show", A), GROW]), 0, memory)
            self.assertEqual(after[40:50], [8, *range(600, 600 + shown), *range(8 - shown), 608])

    def test_each_and_times_within_each_other(self):
        for words in (("each",), ("times",), ("each", "times"), ("times", "each"), ("each", "each", "times")):
            for levels in range(1, 5):
                for net, house in ((ALONE, 0), (PAIR, 1), (ROW, 1), (STAR, 0), (STAR, 3)):
                    for inner in (GROW, ("show", A), ("say", A, A), ("set", "e", ("+", ("name", "e"), ("name", "b")))):
                        tree = within(levels, inner, words, 2)
                        if weight_of([tree]) <= 1000:
                            self.check(net, house, tree, 5, None, [6, 7])

    def test_against_the_trees(self):
        source = random.Random(41)
        done = 0
        while done < 700:
            net = source.choice(NETS)
            tree = statement(source, source.randrange(2, 8), EIGHT)
            if parts_of([tree]) > 200 or weight_of([tree]) > 1000:
                continue
            memory = some_memory(source)
            memory[40] = source.randrange(9)
            stack = [source.choice(ENDS) for _ in range(source.choice((0, 1, 30, 900)))]
            start = 10000 if done % 50 == 0 else source.choice((0, 0, 0, 1, 7, 123))
            self.check(net, source.randrange(net.houses), tree, start, memory, stack)
            done += 1

    def greatest(self):
        """The deepest, the longest and the heaviest statements."""
        deep = [within(9, GROW, ("times",)), within(10, ("set", "a", A), ("times",)), ("show", deep_expression(11)),
                within(3, ("show", ("name", "b")), ("each",))]
        return deep + [("if", A, long_body(99), long_body(99)), ("times", 1, long_body(199)),
                       ("times", 1, heavy_body(998)), ("each", "b", [("show", ("name", "b"))] * 66),
                       ("times", 9, [("say", ("heard", A), ("+", A, ONE)), GROW] * 9 + [("set", "b", A)]),
                       ("times", 9, [("times", 9, [GROW, ("set", "a", ("+", A, ("name", "b")))])])]

    def test_the_greatest(self):
        source = random.Random(42)
        seen = [0, 0, 0]
        for tree in self.greatest():
            sizes = (depth_of(tree), parts_of([tree]), weight_of([tree]))
            self.assertTrue(sizes[0] <= 12 and sizes[1] <= 200 and sizes[2] <= 1000, sizes)
            seen = [max(pair) for pair in zip(seen, sizes)]
            for net, house in ((STAR, 0), (STAR, 5), (ALONE, 0)):
                for start in (0, 10000):
                    memory = some_memory(source)
                    memory[40] = source.randrange(9)
                    self.check(net, house, tree, start, memory, [3] * 900)
        self.assertEqual(seen[:2], [12, 200])
        self.assertGreater(seen[2], 990)

    def test_refused(self):
        for value in STRANGE + [0, (SHOW,), "cells round end"]:
            self.raises(BadProgram, {"part": "program"}, statement_code, value, ROW, 0, SHOW)
            self.raises(BadNet, {"part": "net"}, statement_code, PROGRAM, value, 0, SHOW)
            self.raises(BadProgram, {"part": "program"}, round_code, value, ROW, 0)
            self.raises(BadNet, {"part": "net"}, round_code, PROGRAM, value, 0)
        for value in STRANGE + [-1, 3, 10 ** 30, (0,)]:
            self.raises(BadNumber, {"part": "house"}, statement_code, PROGRAM, ROW, value, SHOW)
            self.raises(BadNumber, {"part": "house"}, round_code, PROGRAM, ROW, value)
        for value in STRANGE + [0, (), [], ("me",), ("show",), ("show", SHOW), [SHOW], ("times", 10, []), ("times", True, []),
                                ("each", "end", []), ("set", "a"), ("if", A, [SHOW]), ("show", deep_expression(12)),
                                ("times", 0, long_body(200)), ("times", 1, heavy_body(999)), ("each", "a", heavy_body(300)),
                                within(11, ("show", A), ("times",)), nested(30)]:
            self.raises(BadProgram, {"part": "statement"}, statement_code, PROGRAM, ROW, 0, value)
        for value in STRANGE + [-1, 10001, 10 ** 30, (0,)]:
            self.raises(BadNumber, {"part": "start"}, statement_code, PROGRAM, ROW, 0, SHOW, value)
            self.raises(BadNumber, {"part": "start"}, round_code, PROGRAM, ROW, 0, value)

    def test_names_that_are_no_cells(self):
        few = Program([("b", 1)], [])
        low, far, known = ("name", "low"), ("name", "far"), ("name", "b")
        for tree, name in ((("set", "far", low), "far"), (("set", "b", low), "low"), (("each", "far", [("show", low)]), "far"),
                           (("if", known, [("say", known, low)], [("show", far)]), "low"), (("times", 0, [("show", far)]), "far")):
            self.raises(Unknown, {"name": name}, statement_code, few, ROW, 0, tree)

    def test_the_order_of_errors(self):
        good = [PROGRAM, ROW, 0, SHOW, 0]
        wrong = [(0, None, BadProgram, {"part": "program"}), (1, None, BadNet, {"part": "net"}),
                 (2, 3, BadNumber, {"part": "house"}), (3, A, BadProgram, {"part": "statement"}),
                 (4, -1, BadNumber, {"part": "start"})]
        self.raises_in_order(statement_code, good, wrong)
        good[3] = ("set", "low", A)
        self.raises_in_order(statement_code, good, wrong[:3] + wrong[4:])
        self.raises_in_order(round_code, [PROGRAM, ROW, 0, 0], wrong[:3] + [(3, -1, BadNumber, {"part": "start"})])

    def test_lists_and_names(self):
        tree = ("if", A, (("each", "b", (SHOW,)),), (("times", 3, ()),))
        rows = statement_code(PROGRAM, STAR, 0, tree, 0)
        self.assertEqual(statement_code(PROGRAM, STAR, 0, listed(tree)), rows)
        self.assertEqual(statement_code(start=0, statement=tree, house=0, net=STAR, program=PROGRAM), rows)
        self.assertEqual(round_code(start=4, house=0, net=STAR, program=Program(CELLS, [tree])),
                         statement_code(PROGRAM, STAR, 0, tree, 4))


class Rounds(Running, unittest.TestCase):
    def check(self, program, net, house, source, start=0):
        """Runs code of a round, and compares what it leaves with the next standing."""
        many = len(places_of(net, house))
        draw = [[source.choice(ENDS) for _ in range(many)] for _ in range(3)]
        standing = Standing(source.choice((0, 5, 10 ** 9)), [source.choice(ENDS) for _ in program.cells], draw[0], draw[1], 7, [1])
        given = source.choice(ENDS)
        memory = some_memory(source)
        memory[:len(program.cells)] = standing.cells
        memory[10:10 + many] = draw[2]
        memory[20:22] = [given, standing.done]
        memory[30:30 + many] = [0] * many
        memory[40] = 0
        rows = round_code(program, net, house, start)
        self.check_rows(rows, parts_of(program.body))
        after, stack = self.run_rows(rows, start, memory, [1, 2, 3], 40 * weight_of(program.body))
        told = next_standing(program, net, house, standing, draw[2], given)
        memory[:len(program.cells)] = told.cells
        memory[30:30 + many] = told.new
        memory[40:41 + len(told.shown)] = [len(told.shown), *told.shown]
        self.assertEqual(stack, [1, 2, 3])
        self.same_memory(after, memory)

    def test_rounds(self):
        source = random.Random(43)
        done = 0
        while done < 300:
            body = [statement(source, source.randrange(2, 6), EIGHT) for _ in range(source.randrange(1, 6))]
            if parts_of(body) <= 200 and weight_of(body) <= 1000:
                net = source.choice(NETS)
                self.check(Program(CELLS, body), net, source.randrange(net.houses), source, source.choice((0, 0, 9, 10000)))
                done += 1

    def test_the_greatest(self):
        source = random.Random(44)
        talk = [("each", "b", [("say", ("heard", ("name", "b")), ("name", "b")), SHOW])] * 10
        for body in ([], long_body(200), heavy_body(1000), talk, [("show", expression(source, 11, EIGHT))] * 2):
            for net, house in ((STAR, 0), (STAR, 1), (ALONE, 0)):
                if parts_of(body) <= 200 and weight_of(body) <= 1000:
                    self.check(Program(CELLS, body), net, house, source, 10000)

    def test_a_round_of_nothing_has_no_rows(self):
        self.assertEqual(round_code(PROGRAM, ROW, 1, 5), ())

    def test_on_a_computer_of_the_package(self):
        body = [("each", "a", [("say", ("+", ("heard", A), ("done",)), A)]), ("times", 9, [("show", ("name", "far"))])]
        ahead = [("push", 4), ("store", 10), ("push", 6), ("store", 11), ("push", 50), ("store", 21)]
        one = Computer(Code([*ahead, *round_code(Program(CELLS, body), ROW, 1, len(ahead))]))
        while one.step(0) is None:
            pass
        self.assertEqual([one.memory(at) for at in (0, 30, 31, 32, 40, 41, 48, 49)], [1, 54, 56, 0, 8, 0, 0, 0])
        self.assertEqual((one.stack, one.at), ((), len(one.code)))


if __name__ == "__main__":
    unittest.main()
