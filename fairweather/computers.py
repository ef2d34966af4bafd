"""Computers: a code at work, with a memory, a stack, a disk, and cards for letters."""

from fairweather.checks import are_shorts, is_list, is_lot, is_short, is_within
from fairweather.codes import Code
from fairweather.errors import BadCode, BadNumber
from fairweather.instructions import MOST_DISK, MOST_MEMORY, deed_of_row

MOST_CARDS = 5


def is_disk_pair(value):
    """Whether a value is a pair of an address of the disk and a short."""
    return is_list(value) and len(value) == 2 and is_within(value[0], 0, MOST_DISK - 1) and is_short(value[1])


def are_disk_pairs(value):
    """Whether a value is a list of pairs of an address of the disk and a short."""
    return is_list(value) and all([is_disk_pair(pair) for pair in value])


def is_disk(value):
    """Whether a value is a list of pairs of unlike addresses of the disk and shorts."""
    return are_disk_pairs(value) and len(set([pair[0] for pair in value])) == len(value)


class Computer:
    """A computer: it changes with each step."""

    def __init__(self, code, disk=()):
        if not isinstance(code, Code):
            raise BadCode("code")
        if not is_disk(disk):
            raise BadNumber("disk")
        self.code = code
        self.deeds = [deed_of_row(row) for row in code]
        self.given = 0
        self.settled = [0] * MOST_DISK
        for address, short in disk:
            self.settled[address] = short
        self.power_on()

    def power_on(self):
        """What is not settled on the disk is as at first."""
        self.at = 0
        self.held = [0] * MOST_MEMORY
        self.pile = []
        self.written = list(self.settled)
        self.queue = []
        self.laid = [None] * MOST_CARDS

    @property
    def stack(self):
        """The stack, the last short pushed last."""
        return tuple(self.pile)

    @property
    def disk(self):
        """The pairs of all that is settled and is not 0, ascending."""
        return tuple([(address, short) for address, short in enumerate(self.settled) if short != 0])

    @property
    def waiting(self):
        """The pairs that wait, in order."""
        return tuple(self.queue)

    @property
    def cards(self):
        """What lies on each card: a letter or None."""
        return tuple(self.laid)

    def memory(self, address):
        """What the memory has at an address."""
        if not is_within(address, 0, MOST_MEMORY - 1):
            raise BadNumber("address")
        return self.held[address]

    def disk_at(self, address):
        """What was written last at an address of the disk, waiting or settled."""
        if not is_within(address, 0, MOST_DISK - 1):
            raise BadNumber("address")
        return self.written[address]

    def hand(self, place, letter):
        """Lays a letter on a card, instead of what lay there."""
        if not is_within(place, 0, MOST_CARDS - 1):
            raise BadNumber("place")
        if not are_shorts(letter, 3):
            raise BadNumber("letter")
        self.laid[place] = tuple(letter)

    def step(self, given):
        """Does one step, and returns its effect."""
        if not is_short(given):
            raise BadNumber("given")
        return self.go(given, 1)[1]

    def go(self, given, most):
        """Steps up to one with an effect, so many at most: how many they were, and the effect, or None."""
        self.given = given
        many = 0
        while many < most:
            many += 1
            # Behind the last row it waits, and stays.
            if self.at == len(self.deeds):
                return (many, ("waits",))
            deed, number = self.deeds[self.at]
            self.at += 1
            effect = deed(self, number)
            if effect is not None:
                return (many, effect)
        return (many, None)

    def cut(self, kept):
        """Cuts the power, settles what waits with these indexes, and returns it."""
        if not is_lot(kept, len(self.queue)):
            raise BadNumber("kept")
        pairs = tuple([self.queue[index] for index in kept])
        for address, short in pairs:
            self.settled[address] = short
        self.power_on()
        return pairs

    def state(self):
        """All that changes, as it is now."""
        disk = (tuple(self.settled), tuple(self.written), tuple(self.queue))
        return (self.at, tuple(self.held), tuple(self.pile), disk, tuple(self.laid))

    def restore(self, state):
        """Lets all be as it was when the state was told."""
        at, held, pile, disk, laid = state
        settled, written, queue = disk
        self.at = at
        self.held = list(held)
        self.pile = list(pile)
        self.settled = list(settled)
        self.written = list(written)
        self.queue = list(queue)
        self.laid = list(laid)
