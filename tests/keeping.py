"""What a house does in a beat, as the document tells it: the effects of its computer, without any code."""

from fairweather.nets import places_of
from fairweather.standings import Standing
from tests.telling import told_round

FIRST = {0: 20, 1: 100}


def replay(disk, effects):
    """What is settled on a disk behind effects, and what waits then."""
    settled, waiting = dict(disk), []
    for effect in effects:
        if effect[0] == "wrote":
            waiting.append(effect[1:])
        elif effect[0] == "settled":
            settled.update(waiting)
            waiting = []
    return settled, waiting


class Keeper:
    """A house that wakes with a disk; beat after beat tells its effects."""

    def __init__(self, program, net, house, m, left, disk):
        self.told = program, net, house
        self.many = len(places_of(net, house))
        self.m, self.left = m, left
        self.disk = dict(disk)
        self.waiting, self.effects = [], []
        self.awake = False

    def wake(self):
        self.half = 1 if self.disk.get(0, 0) else 0
        begin = FIRST[self.half]
        read = [self.disk.get(begin + at, 0) for at in range(50)]
        self.done, self.number, self.base = read[:3]
        self.shown = read[4:4 + read[3]]
        self.new, self.old = read[20:20 + self.many], read[30:30 + self.many]
        self.cells = read[40:40 + len(self.told[0].cells)]
        self.hand = [0 if self.done == 0 else None] * self.many
        self.next = [None] * self.many
        if self.left != 7:
            self.show()
        if self.left == 5:
            self.send()
        self.awake = True

    def show(self):
        self.effects += [("shown", self.base + at, short) for at, short in enumerate(self.shown)]

    def send(self):
        for place in range(self.many):
            old = 0 if self.left == 6 else self.old[place]
            self.effects.append(("sent", place, (self.number, self.new[place], old)))

    def write(self, address, short):
        self.waiting.append((address, short))
        self.effects.append(("wrote", address, short))

    def barrier(self):
        self.effects.append(("settled", tuple(self.waiting)))
        self.disk.update(self.waiting)
        self.waiting = []

    def use(self, place, letter):
        number, new, old = letter
        if number == self.done % self.m:
            if self.hand[place] is None:
                self.hand[place] = new
        elif number == (self.done + 1) % self.m and self.left != 6:
            if self.hand[place] is None:
                self.hand[place] = old
            self.next[place] = new

    def round(self, given):
        self.effects.append(("typed", given))
        standing = Standing(self.done, self.cells, self.new, self.old, self.base, self.shown)
        after = told_round(*self.told, standing, self.hand, given)
        self.done, cells, new, old, self.base, shown = after
        self.cells, self.new, self.old, self.shown = list(cells), list(new), list(old), list(shown)
        self.number = self.done % self.m
        if self.left == 2:
            self.send()
        if self.left == 3:
            self.show()
        self.keep()
        if self.left == 5:
            self.send()
        self.hand, self.next = self.next, [None] * self.many
        if self.left != 3:
            self.show()

    def keep(self):
        self.half = 0 if self.left == 4 else 1 - self.half
        begin = FIRST[self.half]
        for at, short in enumerate([self.done, self.number, self.base, len(self.shown)] + (self.shown + [0] * 8)[:8]):
            self.write(begin + at, short)
        for first, shorts in ((20, self.new), (30, self.old), (40, self.cells)):
            for at, short in enumerate(shorts):
                self.write(begin + first + at, short)
        if self.left != 0:
            self.barrier()
        self.write(0, self.half)
        if self.left != 1:
            self.barrier()

    def beat(self, letters, given):
        """The effects of a beat, or of waking and a beat; letters tells what lies on the card of a place."""
        self.effects = []
        if not self.awake:
            self.wake()
        if self.left != 5:
            self.send()
        for place in range(self.many):
            if place in letters:
                self.use(place, letters[place])
        if None not in self.hand:
            self.round(given)
        return self.effects + [("waits",)]
