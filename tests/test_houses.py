import copy
import random
import unittest

from fairweather.codes import Code
from fairweather.computers import Computer
from fairweather.errors import BadNet, BadNumber, BadProgram
from fairweather.halves import first_disk, half_pairs, standing_in
from fairweather.houses import house_code
from fairweather.nets import Net, places_of
from fairweather.programs import Program
from fairweather.rounds import next_standing
from fairweather.standings import Standing, first_standing
from fairweather.statements import round_code
from fairweather.trees import parts_of, weight_of
from tests.helpers import STRANGE, Raising
from tests.keeping import Keeper, replay
from tests.making import ENDS, NAMES, heavy_body, long_body, statement
from tests.test_halves import some_standing

ALONE, PAIR, ROW = Net(1, []), Net(2, [(0, 1)]), Net(3, [(0, 1), (1, 2)])
STAR = Net(6, [(0, 1), (0, 2), (0, 3), (0, 4), (0, 5)])
NETS = [ALONE, PAIR, ROW, Net(4, [(0, 1), (0, 2), (0, 3)]), Net(5, [(0, 4), (1, 4), (2, 4), (3, 4)]), STAR]
CELLS = [(name, 5) for name in NAMES]
EIGHT = [(name, at) for at, name in enumerate("abcdefgh")]
LEFT = [None, *range(8)]
TALK = Program.read("cells sum 3 at 0 round each at do sum := ( sum + heard at ) end sum := ( sum + input ) each at do "
                    "say ( sum + at ) to at end show sum show done end")
LOUD = Program(EIGHT, [("times", 9, [("show", ("name", "a")), ("set", "a", ("+", ("name", "a"), ("input",)))])])


def some_program(source):
    while True:
        body = [statement(source, source.randrange(2, 5)) for _ in range(source.randrange(1, 5))]
        if parts_of(body) <= 200 and weight_of(body) <= 1000:
            return Program(CELLS, body)


def some_disk(source, program, net, house, m, standing=None):
    """A disk in one of whose halves a standing of the house lies, whatever else does."""
    half = source.randrange(2)
    disk = {at: source.choice(ENDS) for at in source.sample(range(200), 150)}
    disk.update(half_pairs(program, net, house, standing or some_standing(source, program, net, house), m, half))
    disk[0] = source.choice([short for short in ENDS if short]) if half else 0
    return list(disk.items())


def clone(computer):
    """A second computer that is just where the first one is."""
    other = copy.copy(computer)
    vars(other).update({name: list(value) for name, value in vars(computer).items() if isinstance(value, list)})
    return other


class Beating(Raising):
    """For test cases."""

    def beat(self, computer, given, most=None):
        """The effects of a beat of a computer, and in how many steps they come; most bounds those steps."""
        effects, steps = [], 0
        while not effects or effects[-1] != ("waits",):
            effects += [effect for effect in [computer.step(given)] if effect]
            steps += 1
            self.assertTrue(most is None or steps <= most, steps)
        return effects

    def room(self, program, net, house):
        """How many instructions a house has besides a round's, or steps in a beat besides the round's, at most."""
        return 400 + 90 * len(places_of(net, house)) + 10 * len(program.cells)


class Beats(Beating, unittest.TestCase):
    def setUp(self):
        self.seen = set()

    def some_letter(self, source, keeper):
        """A letter as far as the house, one ahead, or of another number."""
        done = getattr(keeper, "done", None)
        number = source.randrange(keeper.m) if done is None or source.random() < 0.3 else (done + source.randrange(2)) % keeper.m
        if source.random() < 0.1:
            number = source.choice(ENDS)
        return (number, source.choice(ENDS), source.choice(ENDS))

    def follow(self, source, program, net, house, m, left, disk, beats=6):
        """Beat after beat with letters of all kinds, the same effects in the same order."""
        code = house_code(program, net, house, m, left)
        computer, keeper = Computer(code, disk), Keeper(program, net, house, m, left, disk)
        most = 40 * weight_of(program.body) + self.room(program, net, house)
        for _ in range(beats):
            letters = {}
            for place in range(len(places_of(net, house))):
                if source.random() < 0.8:
                    letters[place] = self.some_letter(source, keeper)
                    computer.hand(place, letters[place])
            given = source.choice(ENDS)
            told = keeper.beat(letters, given)
            self.assertEqual(self.beat(computer, given, most), told)
            self.assertEqual((computer.stack, computer.cards), ((), (None,) * 5))
            self.seen.update((left, effect[0]) for effect in told)
        return computer, keeper

    def test_effects_in_their_order(self):
        source = random.Random(81)
        for left in LEFT:
            for net in NETS:
                for _ in range(6):
                    house = source.randrange(net.houses)
                    program, m = source.choice((TALK, LOUD, some_program(source))), source.choice((2, 3, 3, 5, 64))
                    disk = some_disk(source, program, net, house, m) if source.random() < 0.7 else first_disk(program, net, house)
                    self.follow(source, program, net, house, m, left, disk)
            self.assertTrue(all((left, word) in self.seen for word in ("sent", "typed", "wrote", "settled", "shown", "waits")))

    def test_standings_behind_rounds(self):
        source = random.Random(82)
        for net in NETS:
            for house in range(net.houses):
                for done in (0, 1, 2, 4, 10 ** 9 - 1):
                    many = len(places_of(net, house))
                    standing = some_standing(source, TALK, net, house)
                    standing = Standing(done, standing.cells, standing.new, standing.old, 40, standing.shown)
                    computer = Computer(house_code(TALK, net, house, 3), some_disk(source, TALK, net, house, 3, standing))
                    heard = [0 if done == 0 else at + 50 for at in range(many)]
                    for place in range(many):
                        computer.hand(place, (done % 3, heard[place], 7))
                    given = source.choice(ENDS)
                    self.beat(computer, given)
                    told = next_standing(TALK, net, house, standing, heard, given)
                    self.assertEqual(standing_in(TALK, net, house, computer.disk), told)
                    half = int(computer.disk_at(0) != 0)
                    settled = dict(computer.disk)
                    for address, short in half_pairs(TALK, net, house, told, 3, half):
                        self.assertEqual(settled.get(address, 0), short)

    def test_the_words_that_are_used(self):
        # Behind 4 rounds the numbers 1 and 2 are wanted; number 0 is that of neither round.
        standing = Standing(4, [0, 0], [0], [0], 0, [])
        disk = [(0, 0), *half_pairs(TALK, PAIR, 0, standing, 3, 0)]
        for letters, sums in (([(1, 10, 20), None], [[10], []]), ([(1, 10, 20), (2, 30, 40)], [[10], [40]]),
                              ([(2, 10, 20), None], [[20], [30]]), ([(2, 10, 20), (2, 30, 40)], [[20], [30]]),
                              ([(2, 10, 20), (0, 30, 40)], [[20], [30]]), ([(0, 10, 20), None], [[], []]),
                              ([(1, 10, 20), (1, 30, 40)], [[10], []]), ([(5, 10, 20), (-1, 1, 2)], [[], []]),
                              ([None, (2, 10, 20)], [[], [20]]), ([(1, 10, 20), (0, 30, 40)], [[10], [50]])):
            computer = Computer(house_code(TALK, PAIR, 0, 3), disk)
            for letter, told in zip(letters, sums):
                if letter:
                    computer.hand(0, letter)
                effects = self.beat(computer, 0)
                self.assertEqual([effect[2] for effect in effects if effect[0] == "shown"][:1], told, letters)

    def test_a_word_one_ahead_is_kept_for_the_next_round(self):
        computer = Computer(house_code(TALK, STAR, 0, 5), first_disk(TALK, STAR, 0))
        for place in range(5):
            computer.hand(place, (1, place, 99))
        # In round 0 words of 0 are at hand from the start; those of round 0 come along.
        self.assertEqual([effect[2] for effect in self.beat(computer, 0) if effect[0] == "shown"], [3, 0])
        self.assertEqual([effect[2] for effect in self.beat(computer, 0) if effect[0] == "shown"], [13, 1])
        self.assertEqual([effect for effect in self.beat(computer, 0) if effect[0] in ("shown", "typed")], [])

    def test_letters_of_each_standing(self):
        says = Program([], [("say", ("+", ("done",), ("short", 10)), ("short", 0)), ("show", ("heard", ("short", 0)))])
        computer = Computer(house_code(says, PAIR, 1, 3), first_disk(says, PAIR, 1))
        for turn, letter in enumerate([(0, 0, 0), (1, 10, 0), (2, 11, 10), (0, 12, 11), (1, 13, 12)]):
            computer.hand(0, (turn % 3, 100 + turn, 0))
            effects = self.beat(computer, 0)
            self.assertEqual(effects[0], ("sent", 0, letter))
            self.assertEqual(effects[-2], ("shown", turn, 100 + turn if turn else 0))

    def test_waking(self):
        source = random.Random(83)
        for net in NETS:
            for left in LEFT:
                house, m = source.randrange(net.houses), 3
                disk = some_disk(source, LOUD, net, house, m)
                computer, keeper = self.follow(source, LOUD, net, house, m, left, disk, 3)
                # Twice: no cut settles anything, and waking writes nothing.
                for waits in range(2):
                    computer.cut([])
                    self.assertEqual(computer.at, 0)
                    again = Keeper(LOUD, net, house, m, left, computer.disk)
                    self.assertEqual(self.beat(computer, 9), again.beat({}, 9))

    def test_showings_come_again(self):
        standing = Standing(5, [0] * 8, [], [], 40, [7, 8, 9])
        for half in (0, 1):
            disk = [(0, half), *half_pairs(LOUD, ALONE, 0, standing, 3, half)]
            again = [("shown", 40, 7), ("shown", 41, 8), ("shown", 42, 9)]
            for left in LEFT:
                effects = self.beat(Computer(house_code(LOUD, ALONE, 0, 3, left), disk), 1)
                told = [effect for effect in effects if effect[0] == "shown"]
                self.assertEqual(told[:-8], [] if left == 7 else again)
                self.assertEqual(told[-8:], [("shown", 43 + at, at) for at in range(8)])


class RowsOfCare(Beating, unittest.TestCase):
    def words(self, left, beats=1, program=TALK, net=PAIR):
        """Of each beat the kinds of its effects, as a row of letters; the turning cell's write is a T."""
        computer = Computer(house_code(program, net, 0, 3, left), first_disk(program, net, 0))
        signs = {"sent": "l", "typed": "i", "wrote": "w", "settled": "b", "shown": "s", "waits": ""}
        rows = []
        for turn in range(beats):
            for place in range(len(places_of(net, 0))):
                computer.hand(place, (turn % 3, 0, 0))
            effects = self.beat(computer, 0)
            row = "".join("T" if effect[:2] == ("wrote", 0) else signs[effect[0]] for effect in effects)
            rows.append(row.replace("w" * 16, "W"))
        return rows

    def test_each_row_that_is_left_out(self):
        self.assertEqual(self.words(None, 2), ["liWbTbss", "liWbTbss"])
        self.assertEqual(self.words(0, 2), ["liWTbss"] * 2)
        self.assertEqual(self.words(1, 2), ["liWbTss"] * 2)
        self.assertEqual(self.words(2, 2), ["lilWbTbss"] * 2)
        self.assertEqual(self.words(3, 2), ["lissWbTb"] * 2)
        self.assertEqual(self.words(4, 2), ["liWbTbss"] * 2)
        self.assertEqual(self.words(5, 2), ["liWbTblss", "iWbTblss"])
        self.assertEqual(self.words(6, 2), ["liWbTbss"] * 2)
        self.assertEqual(self.words(7, 2), ["liWbTbss"] * 2)

    def halves_written(self, left):
        computer = Computer(house_code(TALK, ALONE, 0, 3, left), first_disk(TALK, ALONE, 0))
        told = []
        for _ in range(4):
            wrote = [effect[1:] for effect in self.beat(computer, 0) if effect[0] == "wrote"]
            told.append((wrote[0][0], wrote[-1]))
        return told

    def test_halves_by_turns(self):
        for left in LEFT:
            turns = [(100, (0, 1)), (20, (0, 0))] * 2 if left != 4 else [(20, (0, 0))] * 4
            self.assertEqual(self.halves_written(left), turns)
        for turning, half in ((0, 100), (1, 20), (-7, 20), (2, 20)):
            disk = [(0, turning), *half_pairs(TALK, ALONE, 0, first_standing(TALK, ALONE, 0), 3, int(turning != 0))]
            effects = self.beat(Computer(house_code(TALK, ALONE, 0, 3), disk), 0)
            self.assertEqual([effect[1:] for effect in effects if effect[0] == "wrote"][0], (half, 1))
            self.assertIn(("wrote", 0, int(half == 100)), effects)

    def test_the_turning_cell_that_waits(self):
        computer = Computer(house_code(TALK, ALONE, 0, 3, 1), first_disk(TALK, ALONE, 0))
        self.beat(computer, 0)
        self.assertEqual(computer.waiting, ((0, 1),))
        settled = [effect[1] for effect in self.beat(computer, 0) if effect[0] == "settled"]
        self.assertEqual([(len(pairs), pairs[0]) for pairs in settled], [(15, (0, 1))])
        self.assertEqual(computer.waiting, ((0, 0),))

    def test_old_words_left_out(self):
        standing = Standing(4, [0, 0], [5], [6], 0, [])
        disk = [(0, 0), *half_pairs(TALK, PAIR, 0, standing, 3, 0)]
        for left, letter in ((None, (1, 5, 6)), (6, (1, 5, 0))):
            computer = Computer(house_code(TALK, PAIR, 0, 3, left), disk)
            computer.hand(0, (2, 10, 20))
            effects = self.beat(computer, 0)
            self.assertEqual(effects[0], ("sent", 0, letter))
            self.assertEqual(("typed", 0) in effects, left is None)

    def test_letters_that_go_out_early_or_seldom(self):
        says = Program([], [("say", ("input",), ("short", 0))])
        told = {None: [(0, 0, 0)], 2: [(0, 0, 0), (1, 9, 0)], 5: [(0, 0, 0), (1, 9, 0)]}
        for left, letters in told.items():
            computer = Computer(house_code(says, PAIR, 0, 3, left), first_disk(says, PAIR, 0))
            effects = self.beat(computer, 9)
            self.assertEqual([effect[2] for effect in effects if effect[0] == "sent"], letters)
            settled = [at for at, effect in enumerate(effects) if effect[0] == "settled"]
            if left:
                last = max(at for at, effect in enumerate(effects) if effect[0] == "sent")
                self.assertEqual(last > settled[-1], left == 5)
            # Without a word of the neighbour only letters go out; none, if they go out on waking and behind rounds alone.
            self.assertEqual(self.beat(computer, 9), [("sent", 0, (1, 9, 0))][:left != 5] + [("waits",)])


class Cuts(Beating, unittest.TestCase):
    def test_at_each_point_of_a_beat(self):
        source = random.Random(84)
        for left in (None, 0, 1, 4, 5):
            for net, house in ((ALONE, 0), (PAIR, 1), (ROW, 1)):
                computer = Computer(house_code(TALK, net, house, 3, left), first_disk(TALK, net, house))
                many = len(places_of(net, house))
                for _ in range(2):
                    for place in range(many):
                        computer.hand(place, (1, 5, 6))
                    self.beat(computer, 4)
                for place in range(many):
                    computer.hand(place, (2, 8, 9))
                self.cut_everywhere(source, computer, net, house, left)

    def cut_everywhere(self, source, computer, net, house, left):
        """Cuts copies of a computer behind each step of its next beat, with some lots of what waits."""
        before = computer.disk
        ahead = list(computer.waiting)
        effects = []
        while not effects or effects[-1] != ("waits",):
            effects += [effect for effect in [computer.step(6)] if effect]
            settled, waiting = replay(before, [("wrote", *pair) for pair in ahead] + effects)
            self.assertEqual(computer.waiting, tuple(waiting))
            lots = [[], list(range(len(waiting)))] + [[at for at in range(len(waiting)) if source.random() < 0.5] for _ in range(2)]
            for kept in lots:
                one = clone(computer)
                one.cut(kept)
                disk = {**settled, **dict(waiting[at] for at in kept)}
                self.assertEqual(one.disk, tuple(sorted((at, short) for at, short in disk.items() if short)))
                if left is None:
                    self.check_kept(one, before, kept, waiting, net, house)
                    again = Keeper(TALK, net, house, 3, left, disk)
                    self.assertEqual(self.beat(one, 2), again.beat({}, 2))

    def check_kept(self, one, before, kept, waiting, net, house):
        """With all rows of care the half that counts is the standing before the round or the one behind it, whole."""
        elder = standing_in(TALK, net, house, before)
        told = standing_in(TALK, net, house, one.disk)
        many = len(places_of(net, house))
        if told != elder:
            self.assertIn(told, [next_standing(TALK, net, house, elder, [heard] * many, 6) for heard in (5, 8, 9)])
        if (0, 1) not in waiting and (0, 0) not in waiting:
            self.assertTrue(told == elder or not waiting)
        elif kept:
            self.assertNotEqual(told, elder)


class Sizes(Beating, unittest.TestCase):
    def programs(self):
        source = random.Random(85)
        return [Program([], []), Program(EIGHT, []), LOUD, TALK, Program(EIGHT, long_body(200)), Program(EIGHT, heavy_body(1000)),
                Program(EIGHT, [("show", ("input",))] * 8), some_program(source)]

    def test_instructions(self):
        for program in self.programs():
            for net in NETS:
                rows = len(round_code(program, net, 0))
                for left in LEFT:
                    code = house_code(program, net, 0, 64, left)
                    self.assertIs(type(code), Code)
                    self.assertLessEqual(len(code), rows + self.room(program, net, 0))

    def test_steps(self):
        # Each program takes as many steps in each round, so one without a body tells how many a round's are.
        for program in (Program([], [("show", ("input",))] * 8), Program(EIGHT, [("show", ("input",))] * 8)):
            for net in NETS:
                one = Computer(Code([*round_code(program, net, 0), ("wait",)]))
                steps = 0
                while one.step(0) is None:
                    steps += 1
                many = len(places_of(net, 0))
                standing = Standing(4, [1] * len(program.cells), [2] * many, [3] * many, 40, [5] * 8)
                disk = [(0, 0), *half_pairs(program, net, 0, standing, 3, 0)]
                for left in LEFT:
                    computer = Computer(house_code(program, net, 0, 3, left), disk)
                    for turn in range(3):
                        for place in range(many):
                            # One ahead, if such a letter is used at all: that takes more steps.
                            computer.hand(place, ((turn + (1 if left == 6 else 2)) % 3, 8, 9))
                        effects = self.beat(computer, 1, steps + self.room(program, net, 0))
                        self.assertIn(("typed", 1), effects)


class Refused(Raising, unittest.TestCase):
    def test_refused(self):
        for value in STRANGE + [0, "cells round end"]:
            self.raises(BadProgram, {"part": "program"}, house_code, value, PAIR, 0, 3)
            self.raises(BadNet, {"part": "net"}, house_code, TALK, value, 0, 3)
        for value in STRANGE + [-1, 2, (0,)]:
            self.raises(BadNumber, {"part": "house"}, house_code, TALK, PAIR, value, 3)
        for value in STRANGE + [1, 0, 65, -3, 10 ** 30, (3,)]:
            self.raises(BadNumber, {"part": "m"}, house_code, TALK, PAIR, 0, value)
        for value in STRANGE + [-1, 8, (0,)]:
            if value is not None:
                self.raises(BadNumber, {"part": "left"}, house_code, TALK, PAIR, 0, 3, value)

    def test_the_order_of_errors(self):
        wrong = [(0, None, BadProgram, {"part": "program"}), (1, None, BadNet, {"part": "net"}),
                 (2, 2, BadNumber, {"part": "house"}), (3, 1, BadNumber, {"part": "m"}), (4, 8, BadNumber, {"part": "left"})]
        self.raises_in_order(house_code, [TALK, PAIR, 0, 3, None], wrong)

    def test_names(self):
        self.assertEqual(house_code(left=None, m=3, house=1, net=PAIR, program=TALK), house_code(TALK, PAIR, 1, 3))
        for left in LEFT:
            self.assertEqual(house_code(TALK, PAIR, 1, 3, left), house_code(TALK, PAIR, 1, 3, left))


if __name__ == "__main__":
    unittest.main()
