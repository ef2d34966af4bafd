"""A world as the document tells it, in another way than the package: step by step, with all that waits in one list."""

from fairweather.computers import Computer
from fairweather.halves import first_disk
from fairweather.houses import house_code
from fairweather.nets import places_of


class Sky:
    def __init__(self, program, net, m, s, left=None):
        houses = range(net.houses)
        self.s = s
        self.computers = [Computer(house_code(program, net, house, m, left), first_disk(program, net, house)) for house in houses]
        self.places = [places_of(net, house) for house in houses]
        self.lines = {(one, other): [] for one in houses for other in self.places[one]}
        self.screens = [() for _ in houses]
        self.inputs = [() for _ in houses]
        self.waiting = [[] for _ in houses]
        self.typed = [0 for _ in houses]
        self.fallen = [False for _ in houses]

    def do(self, event):
        word, house, *rest = event
        if word in ("hand", "drop"):
            getattr(self, word)(house, *rest)
            return 0
        return 0 if self.fallen[house] else getattr(self, word)(house, *rest)

    def beat(self, house, given):
        for many in range(1, 50001):
            if self.step(house, given) == ("waits",):
                break
        return many

    def steps(self, house, many, given):
        for _ in range(many):
            self.step(house, given)
        return many

    def step(self, house, given):
        effect = self.computers[house].step(given)
        word, *rest = effect or [None]
        if word == "typed":
            self.typed[house] = rest[0]
        elif word == "wrote":
            self.waiting[house].append((rest[0], self.typed[house]))
        elif word == "settled":
            self.settle(house, range(len(self.waiting[house])))
        elif word == "sent":
            self.lines[house, self.places[house][rest[0]]].append((rest[1], 0))
        elif word == "shown" and rest[0] == len(self.screens[house]):
            self.screens[house] += (rest[1],)
        return effect

    def settle(self, house, kept):
        for at in kept:
            address, given = self.waiting[house][at]
            if address == 0:
                self.inputs[house] += (given,)
        self.waiting[house] = []

    def cut(self, house, kept):
        kept = [at for at in kept if at < len(self.waiting[house])]
        self.computers[house].cut(kept)
        self.settle(house, kept)
        return 0

    def fall(self, house):
        self.fallen[house] = True
        return 0

    def hand(self, one, other, back):
        letters = self.lines[one, other]
        at = len(letters) - 1 - back
        if at >= 0:
            if not self.fallen[other]:
                self.computers[other].hand(self.places[other].index(one), letters[at][0])
            later = [(letter, times + (index < at)) for index, (letter, times) in enumerate(letters)]
            self.lines[one, other] = [pair for pair in later if pair[1] <= self.s]

    def drop(self, one, other, back):
        letters = self.lines[one, other]
        if back < len(letters):
            del letters[len(letters) - 1 - back]
