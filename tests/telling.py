"""What a house does in a round, as the document tells it, in another way than the package: straight from the trees."""

from fairweather.nets import places_of
from fairweather.shorts import SIGNS, reckoned, wrapped


class House:
    def __init__(self, program, net, house, standing, heard, given):
        self.cells = dict(zip([name for name, _ in program.cells], standing.cells))
        self.told = {"me": house, "many": len(places_of(net, house)), "houses": net.houses, "input": given,
                     "done": wrapped(standing.done)}
        self.heard = dict(enumerate(heard))
        self.said = dict.fromkeys(self.heard, 0)
        self.shown = []

    def value(self, tree):
        word, *rest = tree
        if word in self.told:
            return self.told[word]
        if word == "short":
            return rest[0]
        if word == "name":
            return self.cells[rest[0]]
        values = [self.value(inner) for inner in rest]
        if word in SIGNS:
            return reckoned(word, *values)
        return int(values[0] == 0) if word == "not" else self.heard.get(values[0], 0)

    def do(self, body):
        for word, *rest in body:
            if word == "set":
                self.cells[rest[0]] = self.value(rest[1])
            elif word == "if":
                self.do(rest[1] if self.value(rest[0]) else rest[2])
            elif word == "each":
                for place in sorted(self.heard):
                    self.cells[rest[0]] = place
                    self.do(rest[1])
            elif word == "times":
                for _ in range(rest[0]):
                    self.do(rest[1])
            elif word == "say":
                if self.value(rest[1]) in self.said:
                    self.said[self.value(rest[1])] = self.value(rest[0])
            else:
                self.shown.append(self.value(rest[0]))


def told_value(program, net, house, standing, heard, given, expression):
    """The value of an expression."""
    return House(program, net, house, standing, heard, given).value(expression)


def told_round(program, net, house, standing, heard, given):
    """The parts of the standing behind a round, as a tuple."""
    done = House(program, net, house, standing, heard, given)
    done.do(program.body)
    return (standing.done + 1, tuple(done.cells[name] for name, _ in program.cells), tuple(done.said.values()),
            standing.new, standing.base + len(standing.shown), tuple(done.shown[:8]))
