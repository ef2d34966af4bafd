import random
import unittest

from fairweather.errors import BadProgram
from fairweather.shorts import SIGNS
from fairweather.trees import (WORDS, depth_of, is_expression, is_name, is_statement, names_in, parts_of, weight_of)
from tests.helpers import STRANGE, Raising, listed, nested, replaced
from tests.making import deep_expression, expression, heavy_body, long_body, statement

EXPRESSIONS = [("short", 0), ("short", -2147483648), ("short", 2147483647), ("name", "a"), ("name", "abcdefgh"), ("me",),
               ("many",), ("houses",), ("input",), ("done",), ("heard", ("me",)), ("not", ("short", 5))]
EXPRESSIONS += [(sign, ("name", "a"), ("input",)) for sign in SIGNS]
STATEMENTS = [("set", "a", ("me",)), ("if", ("me",), (), ()), ("if", ("me",), (("show", ("me",)),), (("times", 3, ()),)),
              ("each", "at", ()), ("each", "at", (("show", ("me",)), ("show", ("name", "at")))), ("times", 0, ()),
              ("times", 9, (("show", ("me",)),)), ("say", ("me",), ("short", 0)), ("show", ("+", ("me",), ("done",)))]
NO_NAMES = STRANGE + list(WORDS) + ["abcdefghi", "A", "Abc", "aB", "a1", "a_", "a b", "a\n", "\u00e4", "\u00df", "\u0430",
                                    "\u00aa", "+", ":=", "(", "-", ["a"], ("a",), b"a", 0]
NO_NAMES = [value for value in NO_NAMES if value != "x"]


class Names(unittest.TestCase):
    def test_words(self):
        told = "and cells div do done each else end heard houses if input many me not or rem round say show then times to"
        self.assertEqual(WORDS, tuple(told.split()))
        self.assertEqual(WORDS, tuple(sorted(WORDS)))
        self.assertIs(type(WORDS), tuple)

    def test_is_name(self):
        for value in ("a", "z", "at", "abcdefgh", "ending", "ands", "short", "name", "set", "x", "wait"):
            self.assertIs(is_name(value), True, value)
        for value in NO_NAMES + [nested(30)]:
            self.assertIs(is_name(value), False, value)
        self.assertIs(is_name(value="a"), True)


class Trees(Raising, unittest.TestCase):
    def test_expressions(self):
        for value in EXPRESSIONS:
            for form in (value, listed(value)):
                self.assertIs(is_expression(form), True, form)
                self.assertIs(is_statement(form), False, form)
        self.assertIs(is_expression(value=("me",)), True)

    def test_statements(self):
        for value in STATEMENTS:
            for form in (value, listed(value)):
                self.assertIs(is_statement(form), True, form)
                self.assertIs(is_expression(form), False, form)
        self.assertIs(is_statement(value=("times", 0, ())), True)

    def refused(self, value):
        for form in (value, listed(value)):
            self.assertIs(is_expression(form), False, form)
            self.assertIs(is_statement(form), False, form)

    def test_what_is_none(self):
        for value in STRANGE + [0, [], (), [[]], ("",), (None,), (("me",),), ([], []), ("me ",), ("short",), "me", ["name"],
                                ("short", True), ("short", 1.0), ("short", "1"), ("short", None), ("short", 1, 1),
                                ("short", 2147483648), ("short", -2147483649), ("short", ("short", 1)), ({},), ({}, {}),
                                nested(30), ("say",), ("set",), ("and",), ("then",), ("at",), ("/", ("me",), ("me",))]:
            self.refused(value)
        for name in NO_NAMES:
            self.refused(("name", name))
            self.refused(("set", name, ("me",)))
            self.refused(("each", name, ()))
        for count in STRANGE + [-1, 10, 10 ** 30, ("short", 1), [1]]:
            self.refused(("times", count, ()))

    def test_too_many_and_too_few(self):
        for value in EXPRESSIONS + STATEMENTS:
            self.refused(value + (("me",),))
            self.refused(value + ((),))
            self.refused(value + (0,))
            self.refused(value[:-1])

    def test_wrong_kinds_within(self):
        for sign in SIGNS:
            for wrong in STRANGE + [0, "a", ("show", ("me",)), (), [("me",)], ("short", 1, 2)]:
                self.refused((sign, wrong, ("me",)))
                self.refused((sign, ("me",), wrong))
        for wrong in STRANGE + [0, ("show", ("me",)), ("times", 0, ()), (), [("me",)]]:
            for value in (("heard", wrong), ("not", wrong), ("set", "a", wrong), ("say", wrong, ("me",)),
                          ("say", ("me",), wrong), ("show", wrong), ("if", wrong, (), ())):
                self.refused(value)
        for wrong in STRANGE + [0, ("show", ("me",)), [("me",)], [()], [None], [[("show", ("me",))]], {}, {"a": 1}]:
            for value in (("if", ("me",), wrong, ()), ("if", ("me",), (), wrong), ("each", "a", wrong), ("times", 1, wrong)):
                self.refused(value)

    def test_bent_at_any_one_part(self):
        source = random.Random(1)

        def paths(tree):
            yield ()
            for at, item in enumerate(tree if isinstance(tree, tuple) else ()):
                for path in paths(item):
                    yield (at,) + path
        for _ in range(40):
            tree = statement(source, 5)
            self.assertTrue(is_statement(tree))
            for path in paths(tree):
                for wrong in (None, True, "?", 2147483648, {}, (("me",), ("me",))):
                    self.assertIs(is_statement(replaced(tree, path, wrong)), False, (tree, path, wrong))

    def test_nested_30_deep(self):
        self.assertIs(is_expression(deep_expression(30)), True)
        self.assertIs(is_expression(listed(deep_expression(30))), True)
        self.assertEqual(depth_of(deep_expression(30)), 30)
        bent = replaced(deep_expression(30), (1,) * 29, ("you",))
        self.assertIs(is_expression(bent), False)
        tree = ("show", ("me",))
        for turn in range(14):
            tree = ("times", 2, [tree])
        self.assertIs(is_statement(tree), True)
        self.assertEqual((depth_of(tree), parts_of([tree]), weight_of([tree])), (16, 16, 81917))
        side = ("me",)
        for turn in range(29):
            side = ("+", side, ("input",)) if turn % 2 else ("and", ("name", "a"), side)
        self.assertIs(is_expression(side), True)
        self.assertEqual(parts_of([("show", side)]), 60)


class Measures(Raising, unittest.TestCase):
    def test_depth(self):
        for tree, depth in ((("me",), 1), (("short", 3), 1), (("times", 3, ()), 1), (("show", ("me",)), 2),
                            (("each", "a", [("times", 1, [])]), 2), (("if", ("me",), [], []), 2),
                            (("if", ("me",), [], [("show", ("not", ("me",)))]), 4), (("+", ("me",), ("not", ("me",))), 3),
                            (["say", ["me"], ["heard", ["heard", ["me"]]]], 4)):
            self.assertEqual(depth_of(tree), depth, tree)
        self.assertEqual(depth_of(tree=("me",)), 1)

    def test_depth_refuses(self):
        for value in STRANGE + [0, [], (), [("show", ("me",))], ("show",), ("name", "end"), nested(30)]:
            self.raises(BadProgram, {"part": "tree"}, depth_of, value)

    def test_parts(self):
        self.assertEqual(parts_of(()), 0)
        self.assertEqual(parts_of([("times", 3, [])]), 1)
        self.assertEqual(parts_of([("set", "a", ("me",)), ("say", ("me",), ("me",))]), 5)
        self.assertEqual(parts_of([["if", ["me"], [["show", ["me"]]], [["show", ["me"]], ["times", 0, []]]]]), 7)
        self.assertEqual(parts_of(body=[]), 0)
        for many in (1, 2, 199, 200, 201, 1000):
            self.assertEqual(parts_of(long_body(many)), many)

    def test_weight(self):
        show = ("show", ("me",))
        for body, weight in (([], 0), ([show], 2), ([show, show], 4), ([("times", 0, [show])], 1), ([("times", 1, [])], 2),
                             ([("times", 9, [show, show])], 46), ([("each", "a", [])], 6), ([("each", "a", [show])], 16),
                             ([("if", ("me",), [], [])], 2), ([("if", ("me",), [show], [show])], 6),
                             ([("each", "a", [("each", "b", [("if", ("me",), [show], [])])])], 1 + 5 * (1 + 1 + 5 * 5)),
                             ([("set", "a", ("+", ("me",), ("not", ("me",))))], 5), ([("say", ("me",), ("me",))], 3)):
            self.assertEqual(weight_of(body), weight, body)
        self.assertEqual(weight_of(body=()), 0)
        for weight in (262, 999, 1000, 1001):
            self.assertEqual(weight_of(heavy_body(weight)), weight)

    def test_names_in_reading_order(self):
        body = [("set", "c", ("+", ("name", "b"), ("name", "c"))), ("each", "d", [("show", ("name", "a"))]),
                ("if", ("name", "e"), [("show", ("name", "g"))], [("show", ("name", "f"))]),
                ("say", ("name", "i"), ("heard", ("name", "h"))), ("times", 0, [("set", "j", ("me",))])]
        for form in (body, listed(body), tuple(body)):
            self.assertEqual(names_in(form), ("c", "b", "d", "a", "e", "g", "f", "i", "h", "j"))
        self.assertEqual(names_in(body=[]), ())
        self.assertEqual(names_in([("times", 0, ())]), ())
        self.assertIs(type(names_in(body)), tuple)

    def test_measures_against_another_reckoning(self):
        source = random.Random(2)

        def parts(value):
            """All parts within any value, each with its level."""
            if isinstance(value, tuple):
                part = bool(value) and isinstance(value[0], str)
                if part:
                    yield value, 1
                for item in value:
                    for tree, level in parts(item):
                        yield tree, level + part
        for _ in range(200):
            body = tuple(statement(source, 6) for _ in range(3))
            found = [(tree, level) for tree, level in parts(body)]
            self.assertEqual(parts_of(body), len(found))
            self.assertEqual(max(map(depth_of, body)), max(level for _, level in found))
            names = [tree[1] for tree, _ in found if tree[0] in ("set", "each", "name")]
            self.assertEqual(names_in(listed(body)), tuple(dict.fromkeys(names)))
            tree = expression(source, 6)
            self.assertEqual(weight_of([("show", tree)]), parts_of([("show", tree)]))

    def test_bodies_refused(self):
        for value in STRANGE + [0, ("show", ("me",)), [("me",)], [[]], [()], [None], ["show"], [[("show", ("me",))]],
                                [("show", ("me",)), ("times", 10, ())], nested(30)]:
            for function in (parts_of, weight_of, names_in):
                self.raises(BadProgram, {"part": "body"}, function, value)


if __name__ == "__main__":
    unittest.main()
