"""A computer as the document tells it, in another way than the package: one state, one list of rows, no table of deeds."""

from fairweather.shorts import SIGNS, reckoned


class Machine:
    def __init__(self, rows, disk=(), memory=()):
        self.rows = [tuple(row) for row in rows]
        self.disk = dict(disk)
        self.memory = dict(memory)
        self.stack, self.waiting, self.cards, self.at = [], [], {}, 0

    def push(self, *shorts):
        for short in shorts:
            self.stack = (self.stack + [short])[:1000]

    def pop(self):
        return self.stack.pop() if self.stack else 0

    def read(self, address):
        for other, short in reversed(self.waiting):
            if other == address:
                return short
        return self.disk.get(address, 0)

    def settle(self, pairs):
        for address, short in pairs:
            self.disk[address] = short
        return tuple(pairs)

    def cut(self, kept):
        pairs = self.settle([self.waiting[index] for index in kept])
        self.memory, self.stack, self.waiting, self.cards, self.at = {}, [], [], {}, 0
        return pairs

    def hand(self, place, letter):
        self.cards[place] = tuple(letter)

    def step(self, given):
        if self.at >= len(self.rows):
            return ("waits",)
        word, *rest = self.rows[self.at]
        self.at += 1
        number = rest[0] if rest else None
        if word in SIGNS:
            other, one = self.pop(), self.pop()
            self.push(reckoned(word, one, other))
            return None
        return getattr(self, "do_" + word)(number, given)

    def do_push(self, number, given):
        self.push(number)

    def do_load(self, number, given):
        self.push(self.memory.get(number, 0))

    def do_store(self, number, given):
        self.memory[number] = self.pop()

    def do_fetch(self, number, given):
        self.push(self.memory.get(self.pop(), 0))

    def do_put(self, number, given):
        address, short = self.pop(), self.pop()
        if address in range(1000):
            self.memory[address] = short

    def do_not(self, number, given):
        self.push(int(not self.pop()))

    def do_drop(self, number, given):
        self.pop()

    def do_copy(self, number, given):
        short = self.pop()
        self.push(short, short)

    def do_jump(self, number, given):
        self.at = number

    def do_unless(self, number, given):
        if not self.pop():
            self.at = number

    def do_read(self, number, given):
        address = self.pop()
        self.push(self.read(address) if address in range(200) else 0)

    def do_write(self, number, given):
        address, short = self.pop(), self.pop()
        if address in range(200) and len(self.waiting) < 400:
            self.waiting.append((address, short))
            return ("wrote", address, short)
        return None

    def do_barrier(self, number, given):
        pairs, self.waiting = self.waiting, []
        return ("settled", self.settle(pairs))

    def do_send(self, number, given):
        old, new, name = self.pop(), self.pop(), self.pop()
        return ("sent", number, (name, new, old))

    def do_take(self, number, given):
        letter = self.cards.pop(number, None)
        self.push(*(letter[::-1] + (1,) if letter else (0,)))

    def do_input(self, number, given):
        self.push(given)
        return ("typed", given)

    def do_show(self, number, given):
        place, short = self.pop(), self.pop()
        return ("shown", place, short)

    def do_wait(self, number, given):
        return ("waits",)

    def state(self):
        """All that a step hangs on, besides the row."""
        return ({at: short for at, short in self.memory.items() if short}, list(self.stack),
                {at: short for at, short in self.disk.items() if short}, list(self.waiting), dict(self.cards))
