import random
import unittest

from fairweather.codes import Code, is_instruction
from fairweather.errors import BadCode, BadText
from fairweather.shorts import SIGNS
from tests.helpers import STRANGE, Raising, nested

PLAIN = ("fetch", "put", "not", "drop", "copy", "read", "write", "barrier", "input", "show", "wait") + SIGNS
BOUNDS = {"push": (-2147483648, 2147483647), "load": (0, 999), "store": (0, 999), "jump": (0, 10000), "unless": (0, 10000),
          "send": (0, 4), "take": (0, 4)}
ALL = [(word,) for word in PLAIN] + [(word, bound) for word, bounds in BOUNDS.items() if "j" not in word and word != "unless"
                                     for bound in bounds] + [("jump", 0), ("unless", 5), ("jump", 31)]
WAIT = ("wait",)


class Instructions(unittest.TestCase):
    def check(self, held, value):
        self.assertIs(is_instruction(value), held, value)
        if isinstance(value, tuple):
            self.assertIs(is_instruction(list(value)), held, value)

    def test_without_a_number(self):
        for word in PLAIN:
            self.check(True, (word,))
            for more in STRANGE + [0, (), []]:
                self.check(False, (word, more))
            self.check(False, word)
        self.assertIs(is_instruction(value=("wait",)), True)

    def test_with_a_number(self):
        for word, (least, most) in BOUNDS.items():
            for number in (least, least + 1, (least + most) // 2, most - 1, most):
                self.check(True, (word, number))
            for number in STRANGE + [least - 1, most + 1, 10 ** 30, -10 ** 30, (least,), [least]]:
                self.check(False, (word, number))
            self.check(False, (word,))
            self.check(False, (word, least, least))
            self.check(False, word)

    def test_other_values(self):
        for value in STRANGE + [0, (), [], ("",), ("Wait",), ("wait ",), ("halt",), (1,), (None,), (["wait"],), [["wait"]],
                                ("me",), ("heard",), ({},), ({}, 1), (b"wait",), ("push", "1"), nested(30)]:
            self.check(False, value)


class Codes(Raising, unittest.TestCase):
    def test_rows(self):
        code = Code([["push", 2], ("wait",), ["+"]])
        self.assertEqual(code.rows, (("push", 2), ("wait",), ("+",)))
        self.assertTrue(type(code.rows) is tuple and all(type(row) is tuple for row in code.rows))
        self.assertEqual(Code(ALL).rows, tuple(ALL))
        self.assertEqual(Code(rows=(("wait",),)).rows, (WAIT,))

    def test_what_is_changed_later_changes_nothing(self):
        row, rows = ["push", 1], []
        rows.append(row)
        code = Code(rows)
        row[1] = 2
        rows.append(row)
        self.assertEqual(code.rows, (("push", 1),))

    def test_going_through(self):
        code = Code(ALL)
        self.assertEqual(len(code), len(ALL))
        self.assertEqual([row for row in code], ALL)
        self.assertEqual((list(code), tuple(code)), (ALL, tuple(ALL)))
        self.assertEqual([(one, other) for one in Code(ALL[:2]) for other in Code(ALL[:2])],
                         [(one, other) for one in ALL[:2] for other in ALL[:2]])
        self.assertEqual(Code([*Code(ALL)]), code)

    def test_equality(self):
        self.assertIs(Code([("push", 1), WAIT]) == Code((["push", 1], ["wait"])), True)
        codes = [Code([WAIT]), Code([WAIT, WAIT]), Code([("push", 1)]), Code([("push", 2)]), Code([("load", 1)])]
        for at, one in enumerate(codes):
            for other in codes[:at]:
                self.assertIs(one == other, False)
                self.assertIs(one != other, True)
        for value in STRANGE + [(WAIT,), [WAIT], "wait"]:
            self.assertIs(Code([WAIT]) == value, False)

    def test_rows_refused(self):
        for value in STRANGE + [0, [], (), WAIT, ["wait"], [()], [None], [WAIT, None], [WAIT, ("halt",)], [[WAIT]], nested(30),
                                [("push", True)], [WAIT, ("load", 1000)], Code([WAIT])]:
            self.raises(BadCode, {"part": "rows"}, Code, value)

    def test_how_many_rows(self):
        self.assertEqual(len(Code([WAIT])), 1)
        self.assertEqual(len(Code([WAIT] * 10000)), 10000)
        self.raises(BadCode, {"part": "rows"}, Code, [WAIT] * 10001)

    def test_targets(self):
        for word in ("jump", "unless"):
            for many in (1, 2, 7):
                for target in range(many + 1):
                    self.assertEqual(len(Code([(word, target)] + [WAIT] * (many - 1))), many)
                for target in (many + 1, 10000):
                    self.raises(BadCode, {"part": "rows"}, Code, [(word, target)] + [WAIT] * (many - 1))
                    self.raises(BadCode, {"part": "rows"}, Code, [WAIT] * (many - 1) + [[word, target]])
            self.assertEqual(len(Code([(word, 10000)] * 10000)), 10000)
            self.raises(BadCode, {"part": "rows"}, Code, [(word, 10000)] + [WAIT] * 9998)


class TextsOfCodes(Raising, unittest.TestCase):
    def refused(self, item, text):
        self.raises(BadText, {"item": item}, Code.read, text)

    def test_texts(self):
        self.assertEqual(str(Code([WAIT])), "wait")
        self.assertEqual(str(Code([["push", -3], ["<"], ("take", 4)])), "push -3 / < / take 4")
        for rows in (ALL, ALL[:1], [("push", 0)], [("jump", 1)], [WAIT] * 10000):
            again = Code.read(str(Code(rows)))
            self.assertIs(type(again), Code)
            self.assertEqual(again.rows, tuple(rows))
        self.assertEqual(Code.read(text="push 2147483647").rows, (("push", 2147483647),))

    def test_no_strings(self):
        for value in STRANGE + [0, ["wait"], ("wait",), b"wait", Code([WAIT])]:
            if not isinstance(value, str):
                self.refused(0, value)

    def test_bent_texts(self):
        for text, item in (("", 0), (" ", 0), ("/", 0), ("halt", 0), ("Wait", 0), ("wait ", 1), (" wait", 0), ("wait\n", 0),
                           ("wait wait", 1), ("wait 1", 1), ("wait /", 2), ("wait / ", 2), ("wait / /", 2), ("push", 1),
                           ("push /", 1), ("push / wait", 1), ("push 1 2", 2), ("push 01", 1), ("push +1", 1), ("push -0", 1),
                           ("push 2147483648", 1), ("push -2147483649", 1), ("push  1", 1), ("push x", 1), ("push 1 wait", 2),
                           ("load 1000", 1), ("load -1", 1), ("store 1000", 1), ("send 5", 1), ("take 5", 1), ("take -1", 1),
                           ("jump 10001", 1), ("unless 10001", 1), ("jump -1", 1), ("push 1.0", 1), ("push \u0663", 1),
                           ("push " + "9" * 5000, 1), ("wait // wait", 1), ("+ / - / * / / ", 6), ("+ / -1", 2), ("+1", 0)):
            self.refused(item, text)

    def test_targets_show_in_the_whole(self):
        for text, item in (("jump 2", 1), ("unless 2", 1), ("jump 10000", 1), ("jump 3 / wait", 3), ("wait / jump 3", 3),
                           ("unless 4 / wait / push 1", 6), ("wait / unless 9 / wait", 5)):
            self.refused(item, text)
        self.refused(3, "jump 9 / halt")
        self.refused(4, "jump 9 / push")
        self.refused(3, "jump 9 /")
        self.assertEqual(len(Code.read("jump 2 / unless 2")), 2)

    def test_no_bar_behind_10000_rows(self):
        text = " / ".join(["+"] * 10000)
        self.assertEqual(len(Code.read(text)), 10000)
        self.refused(19999, text + " /")
        self.refused(19999, text + " / +")
        self.refused(19999, text + " / + / halt")
        self.refused(19999, text + " +")

    def test_each_item_bent(self):
        source = random.Random(14)
        for _ in range(10):
            rows = [source.choice(ALL[:-2]) for _ in range(12)]
            items = str(Code(rows)).split(" ")
            places = [(row, at) for row in range(len(rows)) for at in range(len(rows[row]) + 1)][:-1]
            self.assertEqual(len(places), len(items))
            for item, (row, at) in enumerate(places):
                bad = ["?", "", "00", "2147483648", "push /"]
                if at == len(rows[row]):
                    bad += ["wait", "1"]
                for bent in bad:
                    text = " ".join(items[:item] + [bent] + items[item + 1:])
                    self.refused(item + (bent == "push /" and at == 0), text)
                cut = " ".join(items[:item])
                if at == len(rows[row]):
                    self.assertEqual(len(Code.read(cut)), row + 1)
                elif item:
                    self.refused(item, cut)


if __name__ == "__main__":
    unittest.main()
