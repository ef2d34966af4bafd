import random
import unittest

from fairweather.codes import Code
from fairweather.computers import Computer
from fairweather.errors import BadCode, BadNumber
from fairweather.shorts import SIGNS, reckoned
from tests.helpers import STRANGE, Raising, nested
from tests.machine import Machine
from tests.making import ENDS

LEAST, MOST = -2147483648, 2147483647
WAIT = ("wait",)
WORDS = ("fetch", "put", "not", "drop", "copy", "read", "write", "barrier", "input", "show", "wait") + SIGNS
NO_LETTERS = STRANGE + [(), (1, 2), (1, 2, 3, 4), (1, 2, MOST + 1), (1, True, 3), (1, 2, "3"), [[1, 2, 3]], 5, nested(30)]


def computer(*rows, disk=()):
    return Computer(Code(rows), disk)


def pushes(*shorts):
    return [("push", short) for short in shorts]


def ready(row, *shorts, disk=()):
    """A computer at a row, with shorts on its stack."""
    one = computer(*pushes(*shorts), row, disk=disk)
    for _ in shorts:
        one.step(0)
    return one


def full(row, less=0):
    """A computer at a row, with a full stack, or with one that lacks so many."""
    return ready(row, *range(1000 - less))


def look(one):
    """All that can be seen of a computer."""
    return (one.at, one.stack, one.disk, one.waiting, one.cards, [one.memory(at) for at in range(1000)],
            [one.disk_at(at) for at in range(200)])


class Made(Raising, unittest.TestCase):
    def test_at_first(self):
        code = Code([WAIT])
        for one in (Computer(code), Computer(code=code, disk=()), Computer(code, [])):
            self.assertEqual(one.code, code)
            self.assertEqual(look(one), (0, (), (), (), (None,) * 5, [0] * 1000, [0] * 200))
            for value in (one.stack, one.disk, one.waiting, one.cards):
                self.assertIs(type(value), tuple)

    def test_a_disk(self):
        pairs = [[199, LEAST], (3, 7), (0, MOST), [5, 0]]
        one = computer(WAIT, disk=pairs)
        pairs[1] = (3, 8)
        pairs[0][1] = 9
        self.assertEqual(one.disk, ((0, MOST), (3, 7), (199, LEAST)))
        self.assertEqual((one.disk_at(3), one.disk_at(5), one.disk_at(4), one.waiting), (7, 0, 0, ()))
        self.assertTrue(all(type(pair) is tuple for pair in one.disk))
        self.assertEqual(len(computer(WAIT, disk=[(at, at + 1) for at in range(200)]).disk), 200)

    def test_refused(self):
        code = Code([WAIT])
        for value in STRANGE + [0, [WAIT], "wait", ("wait",)]:
            self.raises(BadCode, {"part": "code"}, Computer, value)
        pair = (1, 2)
        for value in STRANGE + [0, pair, [()], [(1,)], [(1, 2, 3)], [(-1, 0)], [(200, 0)], [(0, MOST + 1)], [(True, 0)],
                                [(0, False)], [("0", 0)], [pair, (1, 2)], [(1, 0), (2, 0), [1, 5]], [[pair]], nested(30)]:
            if value != ():
                self.raises(BadNumber, {"part": "disk"}, Computer, code, value)
        self.raises(BadCode, {"part": "code"}, Computer, None, None)


class Instructions(Raising, unittest.TestCase):
    def check(self, one, effect, stack, at=None):
        """A step with this effect leaves this stack, and goes on to the next row, or to one that is told."""
        before = one.at
        self.assertEqual(one.step(77), effect)
        self.assertEqual(one.stack, tuple(stack))
        self.assertEqual(one.at, before + 1 if at is None else at)

    def test_push(self):
        for short in ENDS:
            self.check(computer(("push", short)), None, [short])
            self.check(ready(("push", short), 5), None, [5, short])
        self.check(full(("push", 7)), None, range(1000))
        self.check(full(("push", 7), 1), None, [*range(999), 7])

    def test_load_and_store(self):
        for address in (0, 1, 500, 999):
            one = computer(("push", 3), ("push", 8), ("store", address), ("load", address), ("load", 998))
            for stack in ([3], [3, 8], [3], [3, 8], [3, 8, 0]):
                self.check(one, None, stack)
            self.assertEqual([one.memory(at) for at in range(1000)], [8 * (at == address) for at in range(1000)])
        one = computer(("push", 8), ("store", 4), ("store", 4))
        for _ in range(3):
            self.check(one, None, one.stack + (8,) if one.at == 0 else [])
        self.assertEqual(one.memory(4), 0)
        self.check(full(("load", 0)), None, range(1000))
        one = full(("store", 4))
        self.check(one, None, range(999))
        self.assertEqual(one.memory(4), 999)

    def test_fetch_and_put(self):
        for address in (0, 1, 999):
            one = ready(("put",), 5, 8, address)
            self.check(one, None, [5])
            self.assertEqual([one.memory(at) for at in range(1000)], [8 * (at == address) for at in range(1000)])
            one = computer(("push", 8), ("store", address), ("push", address), ("fetch",))
            for stack in ([8], [], [address], [8]):
                self.check(one, None, stack)
        for address in (-1, 1000, LEAST, MOST):
            one = ready(("put",), 5, 8, address)
            self.check(one, None, [5])
            self.assertEqual([one.memory(at) for at in range(1000)], [0] * 1000)
            self.check(ready(("fetch",), 5, address), None, [5, 0])
        one = computer(("push", 6), ("store", 0), ("fetch",), ("put",), ("fetch",))
        for stack in ([6], [], [6], [], [6]):
            self.check(one, None, stack)
        one = full(("fetch",))
        self.check(one, None, [*range(999), 0])
        one = full(("put",))
        self.check(one, None, range(998))
        self.assertEqual(one.memory(999), 998)

    def test_beside_memory_and_disk(self):
        for address in (-1, -1000, -200, 1000, 200, 1199, LEAST, MOST):
            full_disk = [(at, 7) for at in range(200)]
            one = computer(*[row for at in range(1000) for row in (("push", 5), ("store", at))], *pushes(address), ("fetch",),
                           *pushes(address), ("read",), *pushes(8, address), ("put",), *pushes(9, address), ("write",),
                           disk=full_disk)
            for _ in range(2000):
                one.step(0)
            self.assertEqual([one.step(0) for _ in range(10)], [None] * 10)
            self.assertEqual(one.stack, (5 * (address == 200), 0))
            self.assertEqual([one.memory(at) for at in range(1000)], [8 if at == address else 5 for at in range(1000)])
            self.assertEqual((one.waiting, [one.disk_at(at) for at in range(200)]), ((), [7] * 200))

    def test_a_put_on_an_empty_stack_is_one_of_0_at_0(self):
        one = computer(("push", 6), ("store", 0), ("put",))
        for _ in range(3):
            one.step(0)
        self.assertEqual((one.memory(0), one.stack), (0, ()))

    def test_signs(self):
        for sign in SIGNS:
            for one in ENDS:
                for other in ENDS:
                    self.check(ready((sign,), 4, one, other), None, [4, reckoned(sign, one, other)])
            self.check(computer((sign,)), None, [reckoned(sign, 0, 0)])
            self.check(ready((sign,), 9), None, [reckoned(sign, 0, 9)])
            self.check(full((sign,)), None, [*range(998), reckoned(sign, 998, 999)])

    def test_not_drop_copy(self):
        for short in ENDS:
            self.check(ready(("not",), 4, short), None, [4, int(short == 0)])
            self.check(ready(("drop",), 4, short), None, [4])
            self.check(ready(("copy",), 4, short), None, [4, short, short])
        for word, stack in (("not", [1]), ("drop", []), ("copy", [0, 0])):
            self.check(computer((word,)), None, stack)
        for word, stack in (("not", [*range(999), 0]), ("drop", range(999)), ("copy", range(1000))):
            self.check(full((word,)), None, stack)

    def test_jump(self):
        for row in range(4):
            one = computer(WAIT, ("jump", row), WAIT)
            one.step(0)
            self.check(one, None, [], row)
        one = computer(("jump", 0))
        self.check(one, None, [], 0)
        self.check(one, None, [], 0)
        one = computer(("jump", 1))
        self.check(one, None, [], 1)
        self.check(one, ("waits",), [], 1)

    def test_unless(self):
        for row in range(4):
            self.check(ready(("unless", row), 5, 0), None, [5], row)
            for short in (1, -1, LEAST, MOST):
                self.check(ready(("unless", row), 5, short), None, [5], 3)
        self.check(computer(("unless", 0)), None, [], 0)
        self.check(computer(WAIT, ("unless", 0)), ("waits",), [], 1)
        self.check(full(("unless", 0)), None, range(999), 1001)
        one = computer(("push", 0), ("unless", 4), WAIT, WAIT)
        one.step(0)
        self.check(one, None, [], 4)
        self.check(one, ("waits",), [], 4)

    def test_behind_the_last_row(self):
        one = computer(("push", 4), WAIT)
        self.check(one, None, [4], 1)
        for _ in range(3):
            self.check(one, ("waits",), [4], 2)

    def test_read_and_write(self):
        for address in (0, 1, 199):
            one = ready(("write",), 5, 8, address, disk=[(address, 3)])
            self.check(one, ("wrote", address, 8), [5])
            self.assertEqual((one.waiting, one.disk, one.disk_at(address)), (((address, 8),), ((address, 3),), 8))
            self.check(ready(("read",), 5, address, disk=[(address, 3)]), None, [5, 3])
        for address in (-1, 200, LEAST, MOST):
            one = ready(("write",), 5, 8, address)
            self.check(one, None, [5])
            self.assertEqual((one.waiting, one.disk), ((), ()))
            self.check(ready(("read",), 5, address), None, [5, 0])
        self.check(computer(("write",)), ("wrote", 0, 0), [])
        self.check(computer(("read",), disk=[(0, 9)]), None, [9])
        self.check(full(("write",), 800), ("wrote", 199, 198), range(198))
        self.check(full(("read",)), None, [*range(999), 0])

    def test_what_was_written_last_is_read(self):
        one = computer(*pushes(8, 3), ("write",), *pushes(3), ("read",), *pushes(9, 3), ("write",), *pushes(3), ("read",),
                       ("barrier",), *pushes(3), ("read",), disk=[(3, 7)])
        effects = [effect for effect in [one.step(0) for _ in range(13)] if effect]
        self.assertEqual(effects, [("wrote", 3, 8), ("wrote", 3, 9), ("settled", ((3, 8), (3, 9)))])
        self.assertEqual((one.stack, one.disk, one.disk_at(3), one.waiting), ((8, 9, 9), ((3, 9),), 9, ()))

    def test_barrier(self):
        one = ready(("barrier",), 5)
        self.check(one, ("settled", ()), [5])
        one = computer(*pushes(0, 3), ("write",), ("barrier",), ("barrier",), disk=[(3, 7)])
        effects = [one.step(0) for _ in range(5)]
        self.assertEqual(effects, [None, None, ("wrote", 3, 0), ("settled", ((3, 0),)), ("settled", ())])
        self.assertEqual((one.disk, one.disk_at(3)), ((), 0))

    def test_400_writings_wait(self):
        one = computer(("push", 1), ("load", 0), ("+",), ("store", 0), ("load", 0), ("push", 7), ("write",), ("jump", 0))
        for turn in range(403):
            effects = [one.step(0) for _ in range(8)]
            self.assertEqual(effects[6], ("wrote", 7, turn + 1) if turn < 400 else None)
            self.assertEqual(len(one.waiting), min(turn + 1, 400))
            self.assertEqual((one.stack, one.disk_at(7)), ((), min(turn + 1, 400)))
        one.cut([399])
        self.assertEqual(one.disk, ((7, 400),))

    def test_send(self):
        for place in range(5):
            self.check(ready(("send", place), 4, 1, LEAST, MOST), ("sent", place, (1, LEAST, MOST)), [4])
            self.check(computer(("send", place)), ("sent", place, (0, 0, 0)), [])
        self.check(ready(("send", 0), 6), ("sent", 0, (0, 0, 6)), [])
        self.check(full(("send", 0)), ("sent", 0, (997, 998, 999)), range(997))

    def test_take(self):
        for place in range(5):
            one = ready(("take", place), 4)
            self.check(one, None, [4, 0])
            one = ready(("take", place), 4)
            for other in range(5):
                one.hand(other, [other, LEAST, MOST])
            cards = list(one.cards)
            self.check(one, None, [4, MOST, LEAST, place, 1])
            cards[place] = None
            self.assertEqual(one.cards, tuple(cards))
        for less, stack in ((0, []), (1, [7]), (2, [7, 6]), (3, [7, 6, 5]), (4, [7, 6, 5, 1]), (5, [7, 6, 5, 1])):
            one = full(("take", 2), less)
            one.hand(2, (5, 6, 7))
            self.check(one, None, [*range(1000 - less), *stack])
            self.assertEqual(one.cards, (None,) * 5)
        self.check(full(("take", 2)), None, range(1000))

    def test_input_show_wait(self):
        for given in ENDS:
            one = ready(("input",), 4)
            self.assertEqual(one.step(given), ("typed", given))
            self.assertEqual(one.stack, (4, given))
        self.check(full(("input",)), ("typed", 77), range(1000))
        for place in (0, 5, -1, LEAST, MOST):
            self.check(ready(("show",), 4, 9, place), ("shown", place, 9), [4])
        self.check(computer(("show",)), ("shown", 0, 0), [])
        self.check(ready(("show",), 6), ("shown", 6, 0), [])
        self.check(full(("show",)), ("shown", 999, 998), range(998))
        self.check(ready(WAIT, 4), ("waits",), [4])

    def test_against_another_computer(self):
        source = random.Random(21)
        for _ in range(250):
            many = source.randrange(1, 40)
            rows = [self.some_row(source, many) for _ in range(many)]
            disk = {source.randrange(6): source.choice(ENDS) for _ in range(3)}
            one, other = computer(*rows, disk=list(disk.items())), Machine(rows, disk)
            for _ in range(150):
                self.one_deed(source, one, other)
                self.assertEqual((one.at, one.stack, one.waiting), (other.at, tuple(other.stack), tuple(other.waiting)))
            self.assertEqual(one.cards, tuple(other.cards.get(place) for place in range(5)))
            self.assertEqual([one.memory(at) for at in range(1000)], [other.memory.get(at, 0) for at in range(1000)])
            self.assertEqual([one.disk_at(at) for at in range(200)], [other.read(at) for at in range(200)])
            self.assertEqual(one.disk, tuple(sorted((at, short) for at, short in other.disk.items() if short)))

    def some_row(self, source, many):
        word = source.choice(("push",) * 12 + ("load", "store", "jump", "unless", "send", "take") + WORDS)
        if word in ("jump", "unless"):
            return (word, source.randrange(many + 1))
        if word == "push":
            return (word, source.choice((0, 1, 2, 3, 4, 5, 198, 199, 200, 998, 999, 1000) + ENDS))
        return (word, source.randrange(5)) if word in ("load", "store", "send", "take") else (word,)

    def one_deed(self, source, one, other):
        chance = source.random()
        if chance < 0.02:
            kept = [index for index in range(len(other.waiting)) if source.random() < 0.5]
            self.assertEqual(one.cut(kept), other.cut(kept))
        elif chance < 0.1:
            place, letter = source.randrange(5), [source.choice(ENDS) for _ in range(3)]
            one.hand(place, letter)
            other.hand(place, letter)
        else:
            given = source.choice(ENDS)
            self.assertEqual(one.step(given), other.step(given))


class Cuts(Raising, unittest.TestCase):
    def writer(self, pairs, disk=()):
        rows = [row for address, short in pairs for row in (*pushes(short, address), ("write",))]
        one = computer(*pushes(6), ("store", 9), *pushes(4), *rows, disk=disk)
        one.hand(1, (1, 2, 3))
        for _ in range(3 + len(rows)):
            one.step(0)
        return one

    def test_what_a_cut_leaves(self):
        one = self.writer([(3, 1)], [(3, 7), (8, 9)])
        self.assertEqual((one.memory(9), one.stack, one.at, one.cards[1]), (6, (4,), 6, (1, 2, 3)))
        self.assertEqual(one.cut([]), ())
        self.assertEqual(look(one), look(computer(WAIT, disk=[(3, 7), (8, 9)])))

    def test_each_lot(self):
        pairs = ((3, 1), (5, 2), (3, 4), (5, 0))
        for number in range(16):
            kept = [index for index in range(4) if number >> index & 1]
            one = self.writer(pairs, [(5, 9)])
            settled = tuple(pairs[index] for index in kept)
            self.assertEqual(one.cut(tuple(kept) if number % 2 else kept), settled)
            disk = {5: 9, **dict(settled)}
            self.assertEqual(one.disk, tuple(sorted((at, short) for at, short in disk.items() if short)))
            self.assertEqual((one.disk_at(3), one.disk_at(5), one.waiting), (disk.get(3, 0), disk[5], ()))

    def test_twice(self):
        one = self.writer([(3, 1), (4, 2)])
        self.assertEqual((one.cut([1]), one.cut([])), (((4, 2),), ()))
        self.raises(BadNumber, {"part": "kept"}, one.cut, [0])
        self.assertEqual((one.disk, one.at), (((4, 2),), 0))

    def test_it_wakes_at_row_0(self):
        one = computer(*pushes(1), ("load", 0), *pushes(5), ("store", 0), WAIT)
        first = [(one.step(0), one.stack) for _ in range(5)]
        one.cut([])
        self.assertEqual([(one.step(0), one.stack) for _ in range(5)], first)

    def test_refused(self):
        one = self.writer([(3, 1), (4, 2)])
        before = look(one)
        for value in STRANGE + [0, [2], [-1], [0, 0], [1, 0], [0, 1, 2], [True], [0, True], ["0"], [[0]], nested(30)]:
            if value != ():
                self.raises(BadNumber, {"part": "kept"}, one.cut, value)
        self.assertEqual(look(one), before)
        self.assertEqual(one.cut(kept=(0, 1)), ((3, 1), (4, 2)))


class Handing(Raising, unittest.TestCase):
    def test_cards(self):
        one = computer(("take", 1), ("take", 1))
        letter = [1, 2, 3]
        self.assertIsNone(one.hand(1, letter))
        letter[0] = 9
        self.assertEqual(one.cards, (None, (1, 2, 3), None, None, None))
        one.hand(letter=(4, 5, 6), place=1)
        one.hand(4, (LEAST, 0, MOST))
        self.assertEqual(one.cards, (None, (4, 5, 6), None, None, (LEAST, 0, MOST)))
        one.step(0)
        self.assertEqual((one.stack, one.cards[1]), ((6, 5, 4, 1), None))
        one.step(0)
        self.assertEqual(one.stack, (6, 5, 4, 1, 0))

    def test_refused(self):
        one = computer(WAIT)
        before = look(one)
        for value in STRANGE + [-1, 5, 10 ** 30, (0,)]:
            self.raises(BadNumber, {"part": "place"}, one.hand, value, (1, 2, 3))
            self.raises(BadNumber, {"part": "place"}, one.hand, value, None)
        for value in NO_LETTERS:
            self.raises(BadNumber, {"part": "letter"}, one.hand, 0, value)
        for value in STRANGE + [MOST + 1, LEAST - 1, (1,), [1]]:
            self.raises(BadNumber, {"part": "given"}, one.step, value)
        for value in STRANGE + [-1, 1000, (1,)]:
            self.raises(BadNumber, {"part": "address"}, one.memory, value)
        for value in STRANGE + [-1, 200, (1,)]:
            self.raises(BadNumber, {"part": "address"}, one.disk_at, value)
        self.assertEqual(look(one), before)
        self.assertEqual((one.memory(address=999), one.disk_at(address=199), one.step(given=MOST)), (0, 0, ("waits",)))

    def test_two_computers_with_one_code_in_turn(self):
        code = Code([*pushes(8, 3), ("write",), ("input",), ("store", 0), ("barrier",), ("jump", 0)])
        one, other, third = Computer(code), Computer(code), Computer(code)
        for turn in range(60):
            self.assertEqual(one.step(turn), third.step(turn))
            before = look(one)
            if turn % 3 == 0:
                other.step(-turn)
            if turn % 10 == 9:
                other.cut([0] if other.waiting else [])
            self.assertEqual(look(one), before)
            self.assertEqual(look(one), look(third))


if __name__ == "__main__":
    unittest.main()
