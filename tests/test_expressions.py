import random
import unittest

from fairweather.codes import Code
from fairweather.computers import Computer
from fairweather.errors import BadNet, BadNumber, BadProgram, Unknown
from fairweather.expressions import expression_code
from fairweather.nets import Net, places_of
from fairweather.programs import Program
from fairweather.shorts import SIGNS, reckoned
from fairweather.standings import Standing
from fairweather.trees import depth_of, is_expression
from tests.helpers import STRANGE, Raising, listed, nested
from tests.making import ENDS, NAMES, deep_expression, expression
from tests.running import Running, some_memory
from tests.telling import House

LEAST, MOST = -2147483648, 2147483647
ROW = Net(3, [(0, 1), (1, 2)])
NETS = [Net(1, []), Net(2, [(0, 1)]), ROW, Net(4, [(0, 1), (0, 2), (0, 3)]), Net(5, [(0, 4), (1, 4), (2, 4), (3, 4), (0, 1)]),
        Net(6, [(0, 1), (0, 2), (0, 3), (0, 4), (0, 5), (1, 2)])]
EIGHT = NAMES + ("b", "c", "d", "e")
PROGRAM = Program([(name, 5) for name in EIGHT], [])
STARTS = (0, 0, 0, 1, 7, 123)


def parts(tree):
    return 1 + sum(parts(inner) for inner in tree[1:] if isinstance(inner, tuple))


def wide(many):
    """An expression of so many parts, that has not many levels."""
    if many == 1:
        return ("name", "e")
    if many == 2:
        return ("not", wide(1))
    left = (many - 1) // 2
    return ("-", wide(left), wide(many - 1 - left))


def leaning(levels, left):
    """An expression of so many levels, the inner ones at the left or at the right."""
    value = ("input",)
    for at in range(levels - 1):
        value = ("-", value, ("short", at)) if left else ("-", ("short", at), value)
    return value


class Codes(Running, Raising, unittest.TestCase):
    def check(self, net, house, tree, start, memory, stack):
        """Runs code of an expression, and compares what it does with what the trees tell; returns the value."""
        rows = expression_code(PROGRAM, net, house, tree, start)
        self.check_rows(rows, parts(tree))
        after, shorts = self.run_rows(rows, start, memory, stack, 40 * parts(tree))
        standing = Standing(memory[21], memory[:8], (), (), 0, ())
        heard = memory[10:10 + len(places_of(net, house))]
        value = House(PROGRAM, net, house, standing, heard, memory[20]).value(tree)
        self.assertEqual(shorts, [*stack, value])
        self.same_memory(after, memory)
        return value

    def test_each_kind(self):
        memory = list(range(1000, 2000))
        for tree, value in ((("short", LEAST), LEAST), (("short", MOST), MOST), (("name", "a"), 1000), (("name", "e"), 1007),
                            (("me",), 1), (("many",), 2), (("houses",), 3), (("input",), 1020), (("done",), 1021),
                            (("heard", ("short", 0)), 1010), (("heard", ("me",)), 1011), (("heard", ("many",)), 0),
                            (("heard", ("short", -1)), 0), (("heard", ("short", LEAST)), 0), (("heard", ("short", MOST)), 0),
                            (("not", ("input",)), 0), (("not", ("-", ("input",), ("input",))), 1)):
            for stack in ([], [5, 6], list(range(900))):
                self.assertEqual(self.check(ROW, 1, tree, 0, memory, stack), value, tree)
            self.assertEqual(expression_code(PROGRAM, ROW, 1, listed(tree)), expression_code(PROGRAM, ROW, 1, tree, 0))

    def test_signs(self):
        memory = [0] * 1000
        for sign in SIGNS:
            rows = expression_code(PROGRAM, ROW, 1, (sign, ("input",), ("done",)))
            for one in ENDS:
                for other in ENDS:
                    memory[20:22] = [one, other]
                    self.assertEqual(self.run_rows(rows, 0, memory, [4], 120)[1], [4, reckoned(sign, one, other)])

    def test_words_heard_in_each_net(self):
        memory = list(range(1000, 2000))
        for net in NETS:
            for house in range(net.houses):
                many = len(places_of(net, house))
                for place in [*range(-2, 8), 20, 990, -1000, *ENDS]:
                    memory[0] = place
                    value = self.check(net, house, ("heard", ("name", "a")), 0, memory, [])
                    self.assertEqual(value, 1010 + place if 0 <= place < many else 0)

    def test_against_the_trees(self):
        source = random.Random(31)
        for turn in range(700):
            net = source.choice(NETS)
            tree = expression(source, source.randrange(1, 9), EIGHT)
            stack = [source.choice(ENDS) for _ in range(source.choice((0, 1, 30, 900)))]
            start = 10000 if turn % 50 == 0 else source.choice(STARTS)
            self.check(net, source.randrange(net.houses), tree, start, some_memory(source), stack)

    def test_the_deepest_and_the_greatest(self):
        source = random.Random(32)
        trees = [deep_expression(12), wide(200), leaning(12, True), leaning(12, False)]
        for words in (("heard",), ("not",), ("heard", "not"), ("not", "heard", "heard")):
            tree = ("name", "a")
            for at in range(11):
                tree = (words[at % len(words)], tree)
            trees.append(tree)
        self.assertEqual([parts(trees[1]), depth_of(trees[1])], [200, 8])
        for tree in trees:
            self.assertTrue(is_expression(tree) and depth_of(tree) in (8, 12))
            for net in NETS:
                for start in (0, 10000):
                    memory = some_memory(source)
                    memory[0], memory[10:15] = source.choice((0, 1, 4)), [source.choice((0, 1, 2)) for _ in range(5)]
                    self.check(net, 0, tree, start, memory, [7] * 900)

    def test_on_a_computer_of_the_package(self):
        tree = ("+", ("heard", ("not", ("short", 5))), ("*", ("houses",), ("short", 100)))
        rows = [("push", 33), ("store", 10), ("push", 34), ("store", 11)]
        for jumps in (0, 3):
            ahead = [("jump", at + 1) for at in range(jumps)] + [(word, *more) for word, *more in rows]
            one = Computer(Code([*ahead, *expression_code(program=PROGRAM, net=ROW, house=2, expression=tree, start=len(ahead))]))
            while one.step(0) is None:
                pass
            self.assertEqual((one.stack, one.at), ((333,), len(one.code)))

    def test_refused(self):
        tree = ("name", "a")
        for value in STRANGE + [0, PROGRAM.body, "cells round end"]:
            self.raises(BadProgram, {"part": "program"}, expression_code, value, ROW, 0, tree)
            self.raises(BadNet, {"part": "net"}, expression_code, PROGRAM, value, 0, tree)
        for value in STRANGE + [-1, 3, 10 ** 30, (0,)]:
            self.raises(BadNumber, {"part": "house"}, expression_code, PROGRAM, ROW, value, tree)
        for value in STRANGE + [0, (), ("me", 1), ("short", MOST + 1), ("show", tree), ("name", "end"), [tree], ("heard", 0),
                                deep_expression(13), wide(201), nested(30), ("not", ("not",))]:
            self.raises(BadProgram, {"part": "expression"}, expression_code, PROGRAM, ROW, 0, value)
        for value in STRANGE + [-1, 10001, 10 ** 30, (0,)]:
            self.raises(BadNumber, {"part": "start"}, expression_code, PROGRAM, ROW, 0, tree, value)

    def test_names_that_are_no_cells(self):
        few = Program([("b", 1)], [])
        low, far, known = ("name", "low"), ("name", "far"), ("name", "b")
        for tree, name in ((low, "low"), (("+", known, far), "far"), (("-", ("heard", far), low), "far"),
                           (("=", ("not", ("+", known, low)), far), "low"), (("<", ("<", low, far), far), "low")):
            self.raises(Unknown, {"name": name}, expression_code, few, ROW, 0, tree)
        self.raises(Unknown, {"name": "b"}, expression_code, Program([], []), ROW, 0, known, 10000)

    def test_the_order_of_errors(self):
        good = [Program([], []), ROW, 0, ("me",), 0]
        wrong = [(0, None, BadProgram, {"part": "program"}), (1, None, BadNet, {"part": "net"}),
                 (2, 3, BadNumber, {"part": "house"}), (3, ("name", "end"), BadProgram, {"part": "expression"}),
                 (4, -1, BadNumber, {"part": "start"})]
        self.raises_in_order(expression_code, good, wrong)
        good[3] = ("name", "far")
        self.raises_in_order(expression_code, good, wrong[:3] + wrong[4:])


if __name__ == "__main__":
    unittest.main()
