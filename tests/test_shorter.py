import random
import time
import unittest

from fairweather.codes import Code
from fairweather.computers import Computer
from fairweather.errors import BadCode
from fairweather.houses import house_code
from fairweather.nets import Net
from fairweather.programs import Program
from fairweather.shorter import shorter
from fairweather.shorts import SIGNS, reckoned
from tests.helpers import STRANGE, Raising, nested
from tests.making import ENDS, NAMES, statement
from tests.trimness import differ, faults, named

WAIT = ("wait",)
MANY = ("push", "push", "push", "push", "jump", "jump", "unless", "unless", "not", "drop", "+", "<", "load", "store", "wait")
FEW = ("push", "push", "drop", "drop", "jump", "jump", "jump", "unless", "load", "not")
ALL = MANY + ("copy", "input", "show", "take", "send", "read", "write", "barrier", "fetch", "put", "div", "and", "=")


def some_rows(source, many, words):
    """Instructions of these words, with jumps that often lead near."""
    rows = []
    for at in range(many):
        word = source.choice(words)
        near = min(many, max(0, at + source.choice((-2, -1, 0, 1, 1, 2, 3))))
        number = {"push": source.choice((0, 0, 1, 2, -1)), "load": source.randrange(3), "store": source.randrange(3),
                  "send": source.randrange(2), "take": source.randrange(2),
                  "jump": source.choice((near, source.randrange(many + 1))),
                  "unless": source.choice((near, source.randrange(many + 1)))}.get(word)
        rows.append((word,) if number is None else (word, number))
    return rows


class Shorter(Raising, unittest.TestCase):
    def check(self, rows, source=None):
        """The rows of the shorter code, which has to be trim, to do alike, and to be its own shorter code."""
        code = Code(rows)
        trim = shorter(code)
        self.assertIs(type(trim), Code)
        told = list(trim.rows)
        self.assertEqual(faults(told), [], (rows, told))
        self.assertLessEqual(len(told), len(rows))
        self.assertEqual(shorter(trim), trim)
        if not faults(list(code.rows)):
            self.assertEqual(trim, code)
        for _ in range(4):
            self.assertIsNone(differ(rows, told, source or random.Random(5)), (rows, told))
        self.assertEqual(code.rows, tuple(rows))
        return told

    def told(self, text, other):
        """A code, as a text, of which there is just one trim one that does alike with its effects."""
        self.assertEqual(self.check(list(Code.read(text).rows)), list(Code.read(other).rows), text)

    def test_rows_that_are_not_reached(self):
        self.told("jump 2 / wait / show", "show")
        self.told("wait / jump 0 / show / input", "wait / jump 0")
        self.told("load 0 / unless 4 / input / jump 6 / show / jump 6 / wait", "load 0 / unless 4 / input / jump 5 / show / wait")
        self.told("wait / jump 0 / input / unless 2 / jump 2", "wait / jump 0")
        self.told("jump 3 / input / jump 1 / wait / jump 3", "wait / jump 0")

    def test_jumps_to_the_next_row(self):
        self.told("input / jump 2 / show", "input / show")
        self.told("input / jump 2", "input")
        self.told("jump 1 / jump 2 / input / jump 4 / jump 5 / show", "input / show")
        self.told("load 0 / unless 2", "load 0 / unless 2")
        self.told("load 0 / unless 3 / jump 3 / show", "load 0 / unless 2 / show")
        self.told("load 0 / unless 3 / jump 5 / wait / jump 2 / input", "load 0 / unless 3 / jump 4 / wait / input")

    def test_jumps_to_jumps(self):
        self.told("load 0 / unless 4 / input / wait / jump 0", "load 0 / unless 0 / input / wait / jump 0")
        self.told("load 0 / unless 5 / input / jump 5 / show / jump 7 / show / wait", "load 0 / unless 3 / input / wait")
        self.told("load 0 / unless 4 / load 0 / unless 6 / push 1 / drop / jump 0", "load 0 / unless 0 / load 0 / unless 0 / jump 0")
        self.told("load 0 / unless 4 / wait / jump 5 / jump 0 / input", "load 0 / unless 0 / wait / input")
        self.told("wait / load 0 / unless 5 / input / jump 6 / jump 0 / jump 5", "wait / load 0 / unless 0 / input / jump 0")

    def test_rings_of_jumps(self):
        for many in range(1, 8):
            for step in range(many):
                rows = [("jump", (at + step) % many) for at in range(many)]
                self.assertEqual(self.check(rows), [("jump", 0)])
                self.assertEqual(self.check([("input",), *[("jump", row[1] + 1) for row in rows]]), [("input",), ("jump", 1)])
        told = self.check([("load", 0), ("unless", 4), ("input",), ("jump", 5), ("jump", 5), ("jump", 4)])
        self.assertEqual(told, [("load", 0), ("unless", 3), ("input",), ("jump", 3)])
        told = self.check([("load", 0), ("unless", 3), ("jump", 4), ("jump", 2), ("jump", 3), ("wait",)])
        self.assertEqual((told[:1], len(told)), ([("load", 0)], 3))

    def test_not_drop_unless_behind_a_push(self):
        for short in ENDS:
            self.told(f"push {short} / not / store 0 / wait", f"push {int(short == 0)} / store 0 / wait")
            self.told(f"push {short} / drop / input", "input")
            self.told(f"push {short} / unless 3 / input / show", "input / show" if short else "show")
            self.told(f"input / push {short} / unless 0 / show", "input / show" if short else "input / jump 0")
        self.told("load 0 / unless 3 / push 0 / not / store 0", "load 0 / unless 3 / push 0 / not / store 0")
        self.told("load 0 / unless 3 / push 0 / drop / store 0", "load 0 / unless 3 / push 0 / drop / store 0")
        self.told("load 0 / unless 3 / push 0 / unless 0 / store 0", "load 0 / unless 3 / push 0 / unless 0 / store 0")
        self.told("load 0 / unless 2 / push 0 / not / store 0", "load 0 / unless 2 / push 1 / store 0")
        self.told("load 0 / unless 4 / push 5 / drop / input", "load 0 / unless 2 / input")
        self.told("load 0 / unless 2 / push 5 / drop / input", "load 0 / unless 2 / input")

    def test_signs_behind_two_pushes(self):
        for sign in SIGNS:
            for one in ENDS:
                for other in ENDS:
                    told = shorter(Code([("push", one), ("push", other), (sign,), ("store", 0)]))
                    self.assertEqual(told.rows, (("push", reckoned(sign, one, other)), ("store", 0)))
        self.told("push 1 / push 2 / + / store 0", "push 3 / store 0")
        for text in ("load 0 / unless 4 / push 1 / push 2 / + / store 0", "load 0 / unless 3 / push 1 / push 2 / + / store 0",
                     "push 1 / load 0 / +", "load 0 / push 1 / +", "push 1 / push 2 / copy", "push 1 / push 2"):
            self.told(text, text)
        self.told("load 0 / unless 2 / push 1 / push 2 / + / store 0", "load 0 / unless 2 / push 3 / store 0")

    def test_pushes_used_up_in_a_row(self):
        self.told("push 1 / push 2 / push 3 / + / - / not / not / store 0", "push 1 / store 0")
        self.told("push 5 / push 6 / push 7 / push 8 / * / * / * / store 0", "push 1680 / store 0")
        self.told("push 1 / push 2 / push 3 / drop / drop / drop / wait", "wait")
        self.told("push 0 / not / not / not / unless 6 / show / input", "show / input")
        self.told("push 1 / push 1 / - / unless 6 / show / show / input", "input")
        self.told("push 1 / jump 2 / push 2 / jump 4 / + / jump 6 / store 0", "push 3 / store 0")

    def test_chains_of_tests_named_by_other_rows(self):
        # Each test is named by a row that only an earlier one would reach.
        self.told("push 1 / unless 5 / push 0 / unless 7 / jump 8 / input / jump 3 / show / wait", "show / wait")
        self.told("push 1 / unless 5 / push 1 / unless 7 / jump 8 / input / jump 3 / show / wait", "wait")
        for many in (2, 5, 40):
            base = 2 * many + 1
            tests = [row for at in range(many) for row in (("push", 1), ("unless", base + 2 * at))]
            below = [row for at in range(1, many) for row in (("input",), ("jump", 2 * at + 1))]
            rows = [*tests, ("jump", base + 2 * many), *below, ("wait",), ("jump", 0), ("show",)]
            self.assertEqual(self.check(rows), [("show",)])
        text = "load 0 / unless 3 / push 1 / unless 6 / input / jump 7 / show / wait"
        self.told(text, text)

    def test_rows_that_hold_each_other(self):
        # Neither test is named if the other one never fails; but the rows tell just who names whom.
        text = "push 1 / unless 5 / push 1 / unless 7 / wait / input / jump 3 / show / jump 1"
        self.told(text, text)

    def test_no_row_would_be_left(self):
        for text in ("jump 1", "push 1 / drop", "push 5 / unless 0", "jump 2 / wait", "push 0 / unless 2", "jump 3 / jump 3 / jump 0",
                     "push 1 / push 2 / + / not / drop", "push 0 / unless 3 / wait", "jump 2 / input / push 1 / jump 4 / drop"):
            self.told(text, "wait")

    def test_codes_that_are_trim(self):
        for text in ("wait", "push 1", "jump 0", "push 1 / push 2", "load 0 / unless 0", "+ / + / +", "wait / jump 0",
                     "load 0 / unless 2 / jump 2", "load 0 / unless 3 / jump 4 / input / show", "push 1 / jump 0", "load 0 / unless 3 / input / show",
                     "unless 2 / push 5 / not / unless 1", "load 0 / unless 4 / input / jump 5 / show / drop"):
            self.told(text, text)

    def test_at_random(self):
        source = random.Random(51)
        trim = 0
        for _ in range(2500):
            rows = some_rows(source, source.randrange(1, source.choice((4, 8, 16, 40))), source.choice((FEW, MANY, ALL)))
            trim += not faults(rows)
            self.check(rows, source)
        self.assertGreater(trim, 100)

    def test_small_codes(self):
        source = random.Random(54)
        words = ("load", "unless", "unless", "jump", "jump", "jump", "wait", "push", "drop", "not")
        for _ in range(15000):
            rows = some_rows(source, source.randrange(1, 10), words)
            trim = list(shorter(Code(rows)).rows)
            self.assertEqual(faults(trim), [], rows)
            self.assertIsNone(differ(rows, trim, source, 6, 60), rows)

    def test_codes_of_houses(self):
        source = random.Random(52)
        net = Net(3, [(0, 1), (1, 2)])
        for _ in range(12):
            program = Program([(name, 1) for name in NAMES], [statement(source, 3) for _ in range(2)])
            code = house_code(program, net, 1, 3)
            trim = shorter(code)
            self.assertEqual(faults(list(trim.rows)), [])
            self.assertEqual(shorter(trim), trim)
            one, other = Computer(code), Computer(trim)
            for turn in range(4):
                if turn:
                    for place in (0, 1):
                        for each in (one, other):
                            each.hand(place, (turn, 5, turn - 1))
                self.assertEqual(*[self.beat(each, turn) for each in (one, other)])

    def beat(self, computer, given):
        """The effects of a computer up to one that waits, and what is left behind it."""
        effects = [computer.step(given)]
        while effects[-1] != ("waits",):
            effects.append(computer.step(given))
        effects = [effect for effect in effects if effect is not None]
        return effects, computer.stack, computer.disk, computer.waiting, [computer.memory(at) for at in range(1000)]

    def test_long_codes(self):
        started = time.perf_counter()
        half = 5000
        for rows, told in (
                ([("push", 1)] * half + [("+",)] * (half - 1) + [("store", 0)], [("push", half), ("store", 0)]),
                ([("push", 1)] * half + [("drop",)] * half, [WAIT]),
                ([("push", at) for at in range(half)] + [("not",)] * half, [("push", at) for at in range(half - 1)] + [("push", 1)]),
                ([("jump", at + 1) for at in range(10000)], [WAIT]),
                ([("jump", (at + 1) % 10000) for at in range(10000)], [("jump", 0)]),
                ([("jump", (7919 * at + 1) % 10000) for at in range(10000)], [("jump", 0)]),
                ([("jump", 9999), *[("jump", at - 1) for at in range(1, 10000)]], [("jump", 0)]),
                ([("push", 0), ("unless", 2), ("push", 0), ("unless", 4)] + [WAIT] * 9996, [WAIT] * 9996),
                ([("jump", 9999)] + [("input",)] * 9998 + [WAIT], [WAIT]),
                ([("input",)] * 10000, [("input",)] * 10000),
                ([("load", 0), ("unless", 4000)] * 2000 + [("push", 1), ("drop",)] * 3000,
                 [("load", 0), ("unless", 4000)] * 2000)):
            self.assertEqual(list(shorter(Code(rows)).rows), told)
        for levels in (400, 1600):
            # Rows that reach but each other name the test of the next level.
            base = 2 * levels + 1
            rows = [row for at in range(levels) for row in (("push", 1), ("unless", base + 4 * at))]
            rows += [("jump", base + 4 * levels)]
            for at in range(levels):
                rows += [WAIT, ("load", 0), ("unless", min(2 * at + 3, 2 * levels)), ("jump", base + 4 * at)]
            self.assertEqual(list(shorter(Code(rows + [("input",)])).rows), [("input",)])
        source = random.Random(53)
        for words in (FEW, MANY, ALL):
            for many in (2000, 10000):
                trim = shorter(Code(some_rows(source, many, words)))
                self.assertEqual(faults(list(trim.rows)), [])
        self.assertLess(time.perf_counter() - started, 60)

    def test_refused(self):
        for value in STRANGE + [0, [WAIT], (WAIT,), "wait", nested(30)]:
            self.raises(BadCode, {"part": "code"}, shorter, value)
        self.assertEqual(shorter(code=Code([("jump", 1)])), Code([WAIT]))

    def test_the_tests_tell_faults(self):
        for text, fault in (("jump 2 / wait / wait", "reached"), ("jump 1", "next"), ("load 0 / unless 2 / jump 0", "jump to jump"),
                            ("push 1 / not", "not"), ("push 1 / drop", "drop"), ("push 1 / unless 0", "unless"),
                            ("push 1 / push 1 / +", "sign")):
            self.assertIn(fault, faults(list(Code.read(text).rows)))
        self.assertEqual(named([("jump", 4), ("unless", 2), WAIT]), {2, 4})


if __name__ == "__main__":
    unittest.main()
