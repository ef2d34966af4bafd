import random
import unittest

from fairweather.errors import BadProgram, BadText, Twice, Unknown
from fairweather.programs import Program, rows_of
from fairweather.trees import depth_of, parts_of, weight_of
from tests.helpers import STRANGE, Raising, listed, nested
from tests.making import NAMES, deep_expression, heavy_body, long_body, statements
from tests.parsing import first_bad

SHOW = ("show", ("me",))
FAR = ("cells far 99 at 0 round if ( me = 0 ) then far := 0 end each at do if ( ( heard at + 1 ) < far ) then "
       "far := ( heard at + 1 ) end end each at do say far to at end show far end")
CELLS = [(name, 5) for name in NAMES]


def some_programs(seed, many):
    """Programs, the same for the same seed."""
    source = random.Random(seed)
    found = []
    while len(found) < many:
        body = sum([statements(source, 6) for _ in range(3)], ())
        if parts_of(body) <= 200 and weight_of(body) <= 1000:
            found.append(Program(CELLS, body))
    return found


def all_tuples(value):
    return not isinstance(value, list) and all(map(all_tuples, value if isinstance(value, tuple) else ()))


class MakingPrograms(Raising, unittest.TestCase):
    def test_attributes_are_tuples_all_the_way_in(self):
        body = [["if", ["me"], [["set", "a", ["+", ["me"], ["short", 1]]]], []], ("each", "b", [["show", ("name", "b")]])]
        program = Program([["a", 1], ("b", -2)], body)
        self.assertEqual(program.cells, (("a", 1), ("b", -2)))
        self.assertEqual(program.body, (("if", ("me",), (("set", "a", ("+", ("me",), ("short", 1))),), ()),
                                        ("each", "b", (("show", ("name", "b")),))))
        self.assertTrue(all_tuples(program.cells) and all_tuples(program.body))
        self.assertEqual((Program((), ()).cells, Program([], []).body), ((), ()))
        self.assertEqual(Program(body=[], cells=[("a", 0)]).cells, (("a", 0),))

    def test_what_is_changed_later_changes_nothing(self):
        cell, cells, inner, body = ["a", 1], [], [], []
        cells.append(cell)
        body.append(["times", 2, inner])
        program = Program(cells, body)
        cell[1] = 7
        cells.append(["b", 1])
        inner.append(SHOW)
        body.append(SHOW)
        self.assertEqual((program.cells, program.body), ((("a", 1),), (("times", 2, ()),)))

    def test_equality(self):
        self.assertIs(Program([("a", 1)], [SHOW]) == Program([["a", 1]], (["show", ["me"]],)), True)
        programs = [Program([], []), Program([("a", 1)], []), Program([("a", 2)], []), Program([("b", 1)], []),
                    Program([], [SHOW]), Program([("a", 1), ("b", 1)], []), Program([("b", 1), ("a", 1)], [])]
        for at, one in enumerate(programs):
            for other in programs[:at]:
                self.assertIs(one == other, False)
                self.assertIs(one != other, True)
        for value in STRANGE + [((), ()), "cells round end"]:
            self.assertIs(Program([], []) == value, False)

    def test_cells_refused(self):
        for cells in STRANGE + [0, ["a"], [("a",)], [("a", 1, 2)], [("a", True)], [("a", 2147483648)], [("a", -2147483649)],
                                [("a", None)], [("a", "1")], [("end", 1)], [("", 1)], [("abcdefghi", 1)], [(1, "a")],
                                [("a1", 1)], [None], [()], [("a", 1), 5], ("a", 1), [[("a", 1)]], nested(30),
                                [(letter, 0) for letter in "abcdefghi"], [("a", 1)] * 9, [("a", 1), ("a", 1), ("b", None)]]:
            self.raises(BadProgram, {"part": "cells"}, Program, cells, [])
            self.raises(BadProgram, {"part": "cells"}, Program, cells, None)
        self.assertEqual(len(Program([(letter, 0) for letter in "abcdefgh"], []).cells), 8)

    def test_twice(self):
        self.raises(Twice, {"value": "b"}, Program, [("a", 1), ("b", 1), ("b", 2), ("a", 1)], [])
        self.raises(Twice, {"value": "a"}, Program, [("a", 1), ["a", 1]], None)

    def test_bodies_refused(self):
        for body in STRANGE + [0, SHOW, [("me",)], [()], [None], [[SHOW]], [SHOW, ("times", 10, ())],
                               [("set", "end", ("me",))], nested(30)]:
            self.raises(BadProgram, {"part": "body"}, Program, [], body)

    def test_the_deepest(self):
        deep = ("show", deep_expression(11))
        self.assertEqual(depth_of(Program([], [deep]).body[0]), 12)
        self.raises(BadProgram, {"part": "body"}, Program, [], [("show", deep_expression(12))])
        self.raises(BadProgram, {"part": "body"}, Program, [], [SHOW, ("times", 0, [deep])])
        lists = ("times", 1, [])
        for _ in range(11):
            lists = ("times", 1, [lists])
        self.assertEqual(Program([], [lists]).body[0][0], "times")
        self.raises(BadProgram, {"part": "body"}, Program, [], [("if", ("me",), [], [lists])])

    def test_the_longest(self):
        self.assertEqual(parts_of(Program([], long_body(200)).body), 200)
        self.raises(BadProgram, {"part": "body"}, Program, [], long_body(201))
        self.raises(BadProgram, {"part": "body"}, Program, [], [SHOW] * 100000)

    def test_the_heaviest(self):
        self.assertEqual(weight_of(Program([], heavy_body(1000)).body), 1000)
        self.raises(BadProgram, {"part": "long"}, Program, [], heavy_body(1001))

    def test_small_values_of_very_many_parts(self):
        value = ("me",)
        for _ in range(29):
            value = ("+", value, value)
        self.raises(BadProgram, {"part": "body"}, Program, [], [("show", value)])
        body = [SHOW]
        for _ in range(10):
            body = [("times", 1, body)] * 50
        self.raises(BadProgram, {"part": "body"}, Program, [], body)

    def test_unknown(self):
        body = [("show", ("name", "far")), ("set", "near", ("name", "low"))]
        self.raises(Unknown, {"name": "near"}, Program, [("far", 1)], body)
        self.raises(Unknown, {"name": "low"}, Program, [("far", 1), ("near", 0)], body)
        self.raises(Unknown, {"name": "far"}, Program, [], body)
        self.raises(Unknown, {"name": "at"}, Program, [("far", 1)], [("times", 0, [("each", "at", [])])])

    def test_order_of_refusals(self):
        unknown = [("show", ("name", "a"))]
        self.raises(Twice, {"value": "b"}, Program, [("b", 1), ("b", 1)], long_body(201))
        self.raises(BadProgram, {"part": "body"}, Program, [], unknown + long_body(201))
        self.raises(BadProgram, {"part": "long"}, Program, [], unknown + heavy_body(1001))


class TextsOfPrograms(Raising, unittest.TestCase):
    def refused(self, item, text):
        self.raises(BadText, {"item": item}, Program.read, text)
        if isinstance(text, str):
            self.assertEqual(first_bad(text), item)

    def test_forms(self):
        body = [("set", "a", ("short", -5)), ("if", ("me",), (), ()), ("if", ("many",), (SHOW,), ()),
                ("if", ("houses",), (), (SHOW, SHOW)), ("if", ("input",), (SHOW,), (("times", 0, ()),)), ("each", "b", ()),
                ("each", "b", (SHOW,)), ("times", 9, (SHOW, SHOW)), ("say", ("done",), ("heard", ("name", "b"))),
                ("show", ("not", ("and", ("name", "a"), ("<", ("me",), ("short", 0)))))]
        program = Program([("a", 7), ("b", -1)], body)
        self.assertEqual(str(program), (
            "cells a 7 b -1 round a := -5 if me then end if many then show me end if houses then else show me show me end "
            "if input then show me else times 0 do end end each b do end each b do show me end times 9 do show me show me end "
            "say done to heard b show not ( a and ( me < 0 ) ) end"))
        self.assertEqual(Program.read(str(program)), program)
        self.assertEqual(str(Program([], [])), "cells round end")

    def test_rows(self):
        body = [("if", ("me",), [("each", "a", [SHOW])], [("times", 2, []), ("set", "a", ("me",))]), ("if", ("me",), [], []),
                ("say", ("me",), ("many",))]
        program = Program([("a", 7)], body)
        self.assertEqual(rows_of(program), (
            "cells a 7", "round", "  if me then", "    each a do", "      show me", "    end", "  else", "    times 2 do",
            "    end", "    a := me", "  end", "  if me then", "  end", "  say me to many", "end"))
        self.assertEqual(rows_of(program=Program([], [])), ("cells", "round", "end"))
        for program in some_programs(3, 60):
            rows = rows_of(program)
            self.assertIs(type(rows), tuple)
            self.assertEqual(" ".join(row.lstrip(" ") for row in rows), str(program))
            self.assertEqual(rows[0], "cells a 5 far 5 sum 5 longname 5")
            depth = 0
            for row in rows[2:-1]:
                word = row.split()[0]
                depth -= word in ("end", "else")
                self.assertEqual(len(row) - len(row.lstrip(" ")), 2 + 2 * depth)
                depth += word in ("if", "each", "times", "else")
            self.assertEqual(depth, 0)

    def test_rows_refuse(self):
        for value in STRANGE + [FAR, ((), ()), 0]:
            self.raises(BadProgram, {"part": "program"}, rows_of, value)

    def test_reading_what_is_written(self):
        for program in some_programs(4, 100) + [Program([], long_body(200)), Program([], heavy_body(1000)),
                                                Program([], [("show", deep_expression(11))])]:
            again = Program.read(str(program))
            self.assertEqual((again.cells, again.body), (program.cells, program.body))
            self.assertTrue(all_tuples(again.cells) and all_tuples(again.body))
        self.assertEqual(str(Program.read(text=FAR)), FAR)

    def test_no_strings(self):
        for value in STRANGE + [0, ["cells", "round", "end"], FAR.encode()]:
            if not isinstance(value, str):
                self.refused(0, value)

    def test_bent_texts(self):
        for text, item in (("", 0), ("cells", 1), ("cell round end", 0), ("cells end", 1), ("cells round", 2),
                           ("cells round end ", 3), ("cells round end end", 3), (" cells round end", 0),
                           ("cells  round end", 1), ("cells\nround end", 0), ("cells a round end", 2),
                           ("cells a 01 round end", 2), ("cells a -0 round end", 2), ("cells a 2147483648 round end", 2),
                           ("cells a 1 a 1 round end", 3), ("cells if 1 round end", 1), ("cells A 1 round end", 1),
                           ("cells round a := 1 end", 2), ("cells a 1 round a = 1 end", 5), ("cells round show end", 3),
                           ("cells round if me then else end end", 6), ("cells round if me then end else end", 6),
                           ("cells round else end", 2), ("cells round times 10 do end end", 3),
                           ("cells round times -1 do end end", 3), ("cells round times 00 do end end", 3),
                           ("cells round times me do end end", 3), ("cells round each me do end end", 3),
                           ("cells a 1 round each a end", 6), ("cells round say me end", 4), ("cells round say me to end", 5),
                           ("cells round show ( me + me end", 7), ("cells round show ( me me ) end", 5),
                           ("cells round show ( me end", 5), ("cells round show heard end", 4), ("cells round show not", 4),
                           ("cells round show 2147483648 end", 3), ("cells round show - end", 3),
                           ("cells round show 1 then end", 4), ("cells round show short 1 end", 3),
                           ("cells round show name a end", 3), ("cells round set a 1 end", 2),
                           ("cells round times 1 do else show me end end", 5), ("cells round show +1 end", 3),
                           ("cells round show \u0661 end", 3), ("cells round show " + "1" * 5000, 3)):
            self.refused(item, text)
        self.refused(17, "cells a 1 b 1 c 1 d 1 e 1 f 1 g 1 h 1 i 1 round end")

    def test_part_of_level_13(self):
        text = "cells round show " + "not " * 10 + "me end"
        self.assertEqual(str(Program.read(text)), text)
        self.refused(14, "cells round show " + "not " * 11 + "me end")
        self.refused(14, "cells round show " + "not " * 11)
        self.refused(14, "cells round show " + "not " * 11 + "( me + me ) end")
        self.refused(38, "cells round" + " times 1 do" * 12 + " show me" + " end" * 13)
        self.refused(36, "cells round" + " times 1 do" * 11 + " show me" + " end" * 12)
        text = "cells round" + " times 1 do" * 12 + " end" * 13
        self.assertEqual(str(Program.read(text)), text)
        self.refused(38, "cells round" + " times 1 do" * 13 + " end" * 14)
        text = "cells round" + " if me then" * 11 + " else times 0 do end" + " end" * 12
        self.assertEqual(str(Program.read(text)), text)

    def test_level_13_in_each_form(self):
        expressions = ["not {}", "heard {}", "( {} + me )", "( me and {} )"]
        statements = ["if {} then end", "a := {}", "say {} to me", "say me to {}", "show {}"]
        lists = ["if me then {} end", "if me then else {} end", "each a do {} end", "times 0 do {} end",
                 "if me then else show me {} end", "if me then show me {} else show me end"]
        for inner in expressions:
            for outer in statements:
                for around in lists:
                    text = "me"
                    for form in [inner] * 6 + [outer, around] + ["times 0 do {} end"] * 3:
                        text = form.format(text)
                    self.assertEqual(str(Program.read(f"cells a 1 round {text} end")), f"cells a 1 round {text} end")
                    deeper = f"cells a 1 round times 0 do {text} end end"
                    self.refused(first_bad(deeper), deeper)

    def test_part_behind_200_others(self):
        self.refused(202, "cells round" + " show me" * 100 + " show me end")
        self.refused(202, "cells round" + " show me" * 100 + " times 0 do end end")
        self.refused(205, "cells round times 0 do end" + " show me" * 99 + " show me end")
        self.refused(205, "cells round times 0 do end" + " show me" * 100)

    def test_weight_shows_in_the_whole(self):
        for weight in (1001, 2000):
            text = "cells round " + " ".join(str(Program([], [one])).split(" ", 2)[2][:-4] for one in heavy_body(weight)) + " end"
            self.assertIsNone(first_bad(text))
            self.raises(BadText, {"item": text.count(" ")}, Program.read, text)
            self.refused(text.count(" ") + 1, text + " end")
            self.refused(text.count(" "), text[:-4])

    def test_each_item_bent(self):
        for program in [Program.read(FAR)] + some_programs(5, 25):
            items = str(program).split(" ")
            for at in range(len(items)):
                for bent in ("?", "", "cells" if at else "round", "2147483648", "00", "["):
                    self.refused(at, " ".join(items[:at] + [bent] + items[at + 1:]))
                if at:
                    self.refused(at, " ".join(items[:at]))
            self.refused(len(items), str(program) + " end")

    def test_bent_in_many_ways(self):
        source = random.Random(6)
        words = "cells round end if then else each do times say to show ( ) + < and or div rem = not heard me many houses " \
                "input done := a far sum longname other 0 1 9 10 -1 -0 01 2147483647 2147483648 / ".split(" ")
        read = 0
        for program in some_programs(7, 60):
            for _ in range(60):
                items = str(program).split(" ")
                for _ in range(source.choice((1, 1, 1, 2))):
                    at = source.randrange(len(items))
                    way = source.randrange(4)
                    if way == 0:
                        items[at] = source.choice(words)
                    elif way == 1:
                        items.insert(at, source.choice(words))
                    elif way == 2 and len(items) > 1:
                        del items[at]
                    else:
                        other = source.randrange(len(items))
                        items[at], items[other] = items[other], items[at]
                text = " ".join(items)
                bad = first_bad(text)
                if bad is None:
                    read += 1
                    try:
                        self.assertEqual(str(Program.read(text)), text)
                    except BadText as error:
                        self.assertEqual(error.item, len(items) - 1)
                else:
                    self.refused(bad, text)
        self.assertGreater(read, 50)


if __name__ == "__main__":
    unittest.main()
