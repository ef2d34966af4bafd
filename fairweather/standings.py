"""Standings: what a house is between two rounds of a program."""

from fairweather.checks import are_shorts, is_within
from fairweather.nets import check_house, check_net, places_of
from fairweather.papers import fixed
from fairweather.programs import check_program

MOST_ROUNDS = 1000000000
MOST_SHOWN = 8


class Standing:
    """How many rounds a house has done, its cells, its words, and what it has shown."""

    def __init__(self, done, cells, new, old, base, shown):
        self.done = fixed(done)
        self.cells = fixed(cells)
        self.new = fixed(new)
        self.old = fixed(old)
        self.base = fixed(base)
        self.shown = fixed(shown)

    def __eq__(self, other):
        if not isinstance(other, Standing):
            return False
        if self.done != other.done or self.cells != other.cells or self.base != other.base:
            return False
        return self.new == other.new and self.old == other.old and self.shown == other.shown


def check_seat(program, net, house):
    """BadProgram, BadNet or BadNumber for what is no program, no net, and no house of the net."""
    check_program(program)
    check_net(net)
    check_house(net, house, "house")


def is_standing(program, net, house, value):
    """Whether any value is a standing that is right for the house."""
    check_seat(program, net, house)
    if not isinstance(value, Standing):
        return False
    if not is_within(value.done, 0, MOST_ROUNDS) or not is_within(value.base, 0, MOST_ROUNDS):
        return False
    many = len(places_of(net, house))
    if not are_shorts(value.new, many) or not are_shorts(value.old, many):
        return False
    if not are_shorts(value.cells, len(program.cells)):
        return False
    return are_shorts(value.shown, None) and len(value.shown) <= MOST_SHOWN


def first_standing(program, net, house):
    """The standing of a house that has done no round."""
    check_seat(program, net, house)
    words = [0] * len(places_of(net, house))
    return Standing(0, [cell[1] for cell in program.cells], words, words, 0, [])
