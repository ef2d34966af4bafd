import random
import re
import unittest

from fairweather.calm import calm_screens
from fairweather.desk import Desk
from fairweather.errors import BadEvent, BadNet, BadNumber, BadProgram, BadText, Misfit, TooMany
from fairweather.exactly import judged
from fairweather.followed import followed
from fairweather.nets import Net
from fairweather.programs import Program
from fairweather.sweeps import sweep
from fairweather.weathers import Weather
from fairweather.worlds import World
from tests.helpers import STRANGE, Raising, nested
from tests.storming import ADDS, ALONE, COUNTS, NETS, PAIR, ROW, SAYS, STAR, TALK, some_event, some_program, told_distance, told_standing

ASKS = ["done", "fallen", "follows", "spread"]


def listed(numbers):
    return " ".join(map(str, numbers)) or "-"


def told_answers(world):
    """Each ask that there is about a world, with its answer."""
    houses = range(world.net.houses)
    paper = followed(world)
    yield "done", listed(world.done)
    yield "fallen", listed(house for house in houses if world.fallen[house])
    yield "follows", listed((paper.word, *(() if paper else paper.parts)))
    yield "spread", "yes" if all(abs(world.done[one] - world.done[other]) <= told_distance(world.net, one, other)
                                 for one in houses for other in houses) else "no"
    for one in houses:
        yield f"screen {one}", listed(world.screens[one])
        yield f"calm {one}", listed(calm_screens(world.program, world.net, world.inputs)[one])
        yield f"inputs {one}", listed(world.inputs[one])
        done, cells, new, old, base, shown = told_standing(world, one)
        yield f"standing {one}", " / ".join(map(listed, ([done], cells, new, old, [base], shown)))
        for other in houses:
            yield f"distance {one} {other}", str(told_distance(world.net, one, other))
            if (min(one, other), max(one, other)) in world.net.ties:
                letters = [listed((*letter, times)) for letter, times in world.line_of(one, other)]
                yield f"line {one} {other}", " / ".join(letters) or "-"


class Watching(Raising):
    """For test cases."""

    def seen(self, desk):
        """All that can be seen of a desk."""
        world = World(desk.program, desk.net, desk.m, desk.s)
        return [desk.log, len(desk)] + [desk.told(ask) for ask, _ in told_answers(world)]

    def refused(self, desk, kind, fields, line):
        before = self.seen(desk)
        self.raises(kind, fields, desk.told, line)
        self.assertEqual(self.seen(desk), before)


class Deeds(Watching, unittest.TestCase):
    def test_new_desks(self):
        for net in NETS:
            desk = Desk(ADDS, net, 5, 1)
            self.assertEqual((desk.program, desk.net, desk.m, desk.s, desk.log, len(desk)), (ADDS, net, 5, 1, (), 0))
            for ask, told in told_answers(World(ADDS, net, 5, 1)):
                self.assertEqual(desk.told(ask), told, ask)
        self.assertEqual(Desk(ADDS, PAIR, 3).s, 0)
        self.assertEqual(Desk(s=8, m=64, net=PAIR, program=ADDS).m, 64)

    def test_storms(self):
        source = random.Random(201)
        for _ in range(25):
            told = (some_program(source), source.choice(NETS), source.choice((2, 3, 3, 5, 19)), source.choice((0, 1, 8)))
            desk, world, log = Desk(*told), World(*told), ()
            for turn in range(60):
                event = some_event(source, told[1], 0.01)
                line = str(Weather([event]))
                if source.random() < 0.05:
                    line = "sweep -7"
                    world.run(sweep(told[1], -7))
                else:
                    world.do(event)
                log += (line,)
                self.assertEqual(desk.told(line), listed(world.done))
                self.assertEqual((desk.log, len(desk)), (log, len(log)))
                if turn % 10 == 9:
                    for ask, answer in told_answers(world):
                        self.assertEqual(desk.told(ask), answer, ask)
            self.assertEqual(desk.log, log)
            self.assertIs(type(desk.log), tuple)

    def test_each_deed(self):
        desk = Desk(TALK, PAIR, 3, 1)
        for line, told in (("beat 0 5", "1 0"), ("beat 0 -2147483648", "1 0"), ("steps 1 50000 7", "1 1"), ("cut 1", "1 1"),
                           ("cut 0 0 5 99", "1 1"), ("hand 0 1 0", "1 1"), ("hand 0 1 99", "1 1"), ("beat 1 6", "1 2"),
                           ("drop 1 0 0", "1 2"), ("drop 0 1 99", "1 2"), ("sweep 2147483647", "2 2"), ("fall 1", "2 2"),
                           ("sweep 0", "3 2"), ("sweep 0", "3 2")):
            self.assertEqual(desk.told(line), told, line)
        self.assertEqual((desk.told("fallen"), len(desk), desk.told(line="done")), ("1", 14, "3 2"))

    def test_a_log_of_200_lines(self):
        desk = Desk(COUNTS, ALONE, 3)
        for turn in range(200):
            self.assertEqual(desk.told("beat 0 1"), str(turn + 1))
        for line in ("beat 0 1", "fall 0", "sweep 0", "cut 0", "steps 0 1 1"):
            self.refused(desk, TooMany, {"what": "lines", "most": 200}, line)
        for line in ("hand 0 1 0", "beat 5 0", "fall 1"):
            self.refused(desk, BadEvent, {"part": "event"}, line)
        self.refused(desk, BadText, {"item": 1}, "sweep x")
        self.assertEqual((desk.told("done"), desk.told("judge 3 0"), len(desk)), ("200", "right", 200))
        self.raises(TooMany, {"what": "lines", "most": 200}, desk.twin().told, "beat 0 1")
        self.assertEqual(desk.undo(), "beat 0 1")
        self.assertEqual((desk.told("fall 0"), len(desk)), ("199", 200))
        for turn in range(200, 0, -1):
            self.assertEqual(len(desk), turn)
            self.assertEqual(desk.told("screen 0"), listed(range(4, 4 + min(turn, 199))))
            self.assertEqual(desk.undo(), "fall 0" if turn == 200 else "beat 0 1")
        self.assertEqual((desk.undo(), desk.log, desk.told("screen 0")), (None, (), "-"))

    def test_refused_parts(self):
        good = [TALK, PAIR, 3, 0]
        kinds = [(BadProgram, "program", STRANGE + ["cells round end", 0]), (BadNet, "net", STRANGE + ["2 0 1", 0]),
                 (BadNumber, "m", STRANGE + [1, 65]), (BadNumber, "s", STRANGE + [-1, 9])]
        for at, (kind, part, values) in enumerate(kinds):
            for value in values:
                self.raises(kind, {"part": part}, Desk, *good[:at], value, *good[at + 1:])
        wrong = [(0, None, BadProgram, {"part": "program"}), (1, None, BadNet, {"part": "net"}), (2, 1, BadNumber, {"part": "m"}),
                 (3, 9, BadNumber, {"part": "s"})]
        self.raises_in_order(Desk, good, wrong)


class Asks(Watching, unittest.TestCase):
    def test_where_there_is_none(self):
        desk = Desk(Program([], []), ALONE, 3)
        for ask, told in (("done", "0"), ("screen 0", "-"), ("calm 0", "-"), ("inputs 0", "-"), ("fallen", "-"), ("follows", "followed"),
                          ("standing 0", "0 / - / - / - / 0 / -"), ("spread", "yes"), ("distance 0 0", "0")):
            self.assertEqual(desk.told(ask), told)
        desk.told("beat 0 0")
        self.assertEqual((desk.told("standing 0"), desk.told("inputs 0")), ("1 / - / - / - / 0 / -", "0"))
        desk = Desk(Program([("a", -7), ("b", 8)], []), ROW, 3)
        self.assertEqual(desk.told("standing 1"), "0 / -7 8 / 0 0 / 0 0 / 0 / -")
        self.assertEqual((desk.told("line 0 1"), desk.told("line 2 1")), ("-", "-"))
        desk = Desk(Program([], [("show", ("me",))]), PAIR, 3)
        desk.told("beat 1 0")
        self.assertEqual(desk.told("standing 1"), "1 / - / 0 / 0 / 0 / 1")

    def test_follows_and_spread(self):
        desk = Desk(SAYS, PAIR, 2)
        for line in ("beat 0 5", "beat 0 6", "hand 0 1 0", "beat 1 7", "beat 1 8", "hand 0 1 0", "beat 1 9"):
            self.assertEqual((desk.told("follows"), desk.told("spread")), ("followed", "yes"))
            desk.told(line)
        self.assertEqual((desk.told("follows"), desk.told("spread"), desk.told("done")), ("strayed 1 2", "no", "1 3"))
        mute = Desk(Program.read("cells round say 1 to 0 end"), PAIR, 2)
        for line in desk.log:
            mute.told(line)
        self.assertEqual((mute.told("follows"), mute.told("spread"), mute.told("done")), ("parted 1", "no", "1 3"))

    def test_judge(self):
        desk = Desk(SAYS, PAIR, 2, 1)
        for m in (2, 3, 18, 19, 64):
            for s in range(9):
                self.assertEqual(desk.told(f"judge {m} {s}"), judged(m, s).word)
                for left in range(8):
                    self.assertEqual(desk.told(f"judge {m} {s} {left}"), judged(m, s, left).word)

    def test_several_that_have_fallen(self):
        desk = Desk(SAYS, STAR, 3)
        for house in (4, 0, 5):
            desk.told(f"fall {house}")
        self.assertEqual(desk.told("fallen"), "0 4 5")

    def test_asks_change_nothing(self):
        source = random.Random(202)
        desk = Desk(ADDS, ROW, 3)
        for _ in range(40):
            desk.told(str(Weather([some_event(source, ROW)])))
            self.assertEqual(self.seen(desk), self.seen(desk))


class Lines(Watching, unittest.TestCase):
    def some_desk(self):
        desk = Desk(ADDS, ROW, 3)
        for line in ("beat 0 5", "beat 0 6", "hand 0 1 0", "steps 1 200 3"):
            desk.told(line)
        return desk

    def test_bent_lines(self):
        desk = self.some_desk()
        for line, item in (("", 0), (" ", 0), ("-", 0), ("/", 0), ("Done", 0), ("done ", 1), ("done 0", 1), ("done done", 1),
                           ("screen", 1), ("screen ", 1), ("screen 3", 1), ("screen -1", 1), ("screen 00", 1), ("screen 0 0", 2),
                           ("screen x", 1), ("screen 0 ", 2), ("calm 3", 1), ("inputs", 1), ("inputs 9", 1), ("inputs 1 2", 2),
                           ("fallen 0", 1), ("standing", 1), ("standing 5", 1), ("standing 1 1", 2), ("line", 1), ("line 0", 2),
                           ("line 0 3", 2), ("line 3 0", 1), ("line 0 1 2", 3), ("line 3 3", 1), ("follows 1", 1), ("spread yes", 1),
                           ("distance", 1), ("distance 0", 2), ("distance 0 3", 2), ("distance 0 1 1", 3), ("judge", 1), ("judge 3", 2),
                           ("judge 1 0", 1), ("judge 65 0", 1), ("judge 3 9", 2), ("judge 3 -1", 2), ("judge 3 0 8", 3),
                           ("judge 3 0 0 0", 4), ("judge 3 0 -", 3), ("judge 3 0 ", 3), ("sweep", 1), ("sweep x", 1), ("sweep -0", 1),
                           ("sweep 2147483648", 1), ("sweep 0 0", 2), ("sweep 0 /", 2), ("sweep 0 / sweep 0", 2), ("sweeps 0", 0),
                           ("beat", 1), ("beat 0", 2), ("beat 6 0", 1), ("beat 0 0 0", 3), ("beat 0 0 /", 3), ("beat 0 0 / beat 0 0", 3),
                           ("fall 0 / fall 1", 2), ("cut 0 1 0", 3), ("cut 0 5 /", 3), ("cut 0 / fall 0", 2), ("cut 0 100", 2),
                           ("hand 0 0 0", 2), ("hand 0 1 100", 3), ("hand 0 1", 3), ("drop 6 0 0", 1), ("steps 0 50001 0", 2),
                           ("steps 0 1 x", 3), (" beat 0 0", 0), ("beat  0 0", 1), ("undo", 0), ("screen\n0", 0), ("screen +1", 1),
                           ("screen " + "9" * 5000, 1), ("log", 0)):
            self.refused(desk, BadText, {"item": item}, line)

    def test_each_item_bent(self):
        desk = self.some_desk()
        for line in ("done", "screen 1", "calm 2", "inputs 0", "fallen", "standing 1", "line 0 1", "follows", "spread", "distance 0 2",
                     "judge 3 0 1", "sweep 5", "beat 0 7", "steps 0 9 7", "cut 1 2 4", "fall 2", "hand 0 1 3", "drop 1 2 0"):
            items = line.split(" ")
            for at in range(len(items)):
                for bent in ("?", "", "00", "-2147483649", "/", "+1", "x"):
                    self.refused(desk, BadText, {"item": at}, " ".join(items[:at] + [bent] + items[at + 1:]))
                whole = re.match("(cut 1|judge 3 0)( |$)", " ".join(items[:at]))
                if at and not whole:
                    self.refused(desk, BadText, {"item": at}, " ".join(items[:at]))
            for more in ("?", "x", "/", "-1"):
                self.refused(desk, BadText, {"item": len(items)}, line + " " + more)

    def test_no_strings(self):
        desk = self.some_desk()
        for value in STRANGE + [0, ("beat", 0, 5), ["done"], b"done", Weather.read("fall 0"), nested(30), 10 ** 30]:
            if not isinstance(value, str):
                self.refused(desk, BadText, {"item": 0}, value)

    def test_events_that_are_none_of_the_net(self):
        desk = self.some_desk()
        for line in ("beat 3 0", "steps 5 0 0", "cut 4", "fall 3", "hand 0 2 0", "hand 2 0 0", "drop 1 3 0", "drop 5 4 99"):
            self.refused(desk, BadEvent, {"part": "event"}, line)
        self.refused(desk, BadText, {"item": 3}, "beat 3 0 0")

    def test_houses_that_are_not_tied(self):
        desk = self.some_desk()
        for line in ("line 0 2", "line 2 0", "line 0 0", "line 1 1"):
            self.refused(desk, Misfit, {"part": "tie"}, line)
        self.refused(Desk(ADDS, ALONE, 3), Misfit, {"part": "tie"}, "line 0 0")


class UndoAndTwins(Watching, unittest.TestCase):
    def test_undo_of_storms(self):
        source = random.Random(203)
        for _ in range(8):
            told = (some_program(source), source.choice(NETS), source.choice((2, 3, 5)), source.choice((0, 1)))
            desk, behind = Desk(*told), []
            for _ in range(40):
                behind.append(self.seen(desk))
                desk.told(source.choice(("sweep 3", *[str(Weather([some_event(source, told[1], 0.02)]))] * 9)))
            while behind:
                if source.random() < 0.2:
                    desk.told("beat 0 9")
                    self.assertEqual(desk.undo(), "beat 0 9")
                line = desk.log[-1]
                self.assertEqual(desk.undo(), line)
                self.assertEqual(self.seen(desk), behind.pop())
            self.assertEqual((desk.undo(), desk.undo(), len(desk)), (None, None, 0))

    def test_undo_within_a_beat(self):
        # What the computer holds, what waits and the cards come back, too: it goes on as if nothing had been told.
        for many in range(0, 400, 7):
            desk, other = Desk(ADDS, PAIR, 3), Desk(ADDS, PAIR, 3)
            for line in ("beat 1 1", "beat 1 1", "beat 0 3", "hand 1 0 0", f"steps 0 {many} 5"):
                desk.told(line)
                other.told(line)
            for line in ("cut 0 0 3", "beat 0 8", "hand 1 0 0", "drop 1 0 0", "fall 0", "sweep 1"):
                desk.told(line)
            for _ in range(6):
                desk.undo()
            for line in ("beat 0 6", "beat 0 7", "hand 0 1 0", "beat 1 2", "sweep 5"):
                self.assertEqual(desk.told(line), other.told(line))
            self.assertEqual(self.seen(desk), self.seen(other))

    def test_twins(self):
        source = random.Random(204)
        for net in NETS:
            desk = Desk(ADDS, net, 3, 1)
            for _ in range(20):
                desk.told(str(Weather([some_event(source, net)])))
            twin = desk.twin()
            self.assertIs(type(twin), Desk)
            self.assertTrue(desk == twin and self.seen(desk) == self.seen(twin))
            before = self.seen(desk)
            twin.told("beat 0 9")
            twin.told("cut 0")
            self.assertFalse(desk == twin)
            self.assertEqual(self.seen(desk), before)
            desk.told("beat 0 9")
            self.assertFalse(desk == twin)
            desk.told("cut 0")
            self.assertTrue(desk == twin and self.seen(desk) == self.seen(twin))
            while desk.log:
                self.assertEqual(desk.undo(), twin.undo())
                self.assertEqual(self.seen(desk), self.seen(twin))
            desk.told("beat 0 1")
            self.assertEqual((len(desk), len(twin)), (1, 0))

    def test_equality(self):
        desk = Desk(ADDS, PAIR, 3, 1)
        self.assertIs(desk == Desk(Program.read(str(ADDS)), Net(2, [[0, 1]]), 3, 1), True)
        self.assertIs(desk != Desk(ADDS, PAIR, 3, 1), False)
        for other in (Desk(TALK, PAIR, 3, 1), Desk(ADDS, ROW, 3, 1), Desk(ADDS, PAIR, 4, 1), Desk(ADDS, PAIR, 3, 2)):
            self.assertIs(desk == other, False)
        for value in STRANGE + [0, (), desk.log, World(ADDS, PAIR, 3, 1)]:
            self.assertIs(desk == value, False)
        # What counts is the log, not what the deeds did.
        other = desk.twin()
        desk.told("cut 0")
        other.told("cut 1")
        self.assertIs(desk == other, False)
        self.assertEqual((desk.undo(), other.undo()), ("cut 0", "cut 1"))
        self.assertIs(desk == other, True)


if __name__ == "__main__":
    unittest.main()
