"""Nets: houses, and the ties that join them in one piece."""

from fairweather.checks import is_list, is_within, repeated
from fairweather.errors import BadNet, BadNumber, Twice
from fairweather.papers import fixed
from fairweather.texts import Reader

MOST_HOUSES = 6


def is_tie(houses, value):
    """Whether a value is a pair of houses, of so many, one below other."""
    if not is_list(value) or len(value) != 2:
        return False
    return is_within(value[0], 0, houses - 1) and is_within(value[1], value[0] + 1, houses - 1)


def joined(ties, house):
    """The houses that ties join to a house, ascending."""
    lower = [one for one, other in ties if other == house]
    return sorted([*lower, *[other for one, other in ties if one == house]])


def distances(ties, start):
    """A dict of the distance from the house start to each house that ties lead to."""
    found = {start: 0}
    edge = [start]
    while edge:
        beyond = []
        for house in list(edge):
            for other in joined(ties, house):
                if other not in found:
                    found[other] = found[house] + 1
                    beyond.append(other)
        edge = beyond
    return found


def is_one_piece(houses, ties):
    """Whether ties lead from each house, of so many, to each other one."""
    return len(distances(ties, 0)) == houses


class Net:
    """Houses, told by their numbers, and the ties between them."""

    def __init__(self, houses, ties):
        if not is_within(houses, 1, MOST_HOUSES):
            raise BadNumber("houses")
        if not is_list(ties) or not all([is_tie(houses, tie) for tie in ties]):
            raise BadNet("ties")
        pairs = fixed(ties)
        again = repeated(pairs)
        if again is not None:
            raise Twice(again)
        if not is_one_piece(houses, pairs):
            raise BadNet("pieces")
        self.houses = houses
        self.ties = tuple(sorted(pairs))

    def __eq__(self, other):
        return isinstance(other, Net) and self.houses == other.houses and self.ties == other.ties

    def __str__(self):
        if not self.ties:
            return str(self.houses)
        ties = " / ".join([f"{one} {other}" for one, other in self.ties])
        return f"{self.houses} {ties}"

    @staticmethod
    def read(text):
        """The net whose text this is."""
        reader = Reader(text)
        houses = reader.take_number(1, MOST_HOUSES)
        ties = [] if reader.ended() else [read_tie(reader, houses, (0, 0))]
        while not reader.ended():
            reader.take_word("/")
            ties.append(read_tie(reader, houses, ties[-1]))
        if not is_one_piece(houses, ties):
            reader.refuse_whole()
        return Net(houses, ties)


def read_tie(reader, houses, last):
    """The tie that stands next in a text, above the last one."""
    one = reader.take_number(0, houses - 1)
    least = one + 1
    if one == last[0]:
        least = last[1] + 1
    # A first house below the last one's stands, but no second house behind it.
    if one < last[0]:
        least = houses
    return (one, reader.take_number(least, houses - 1))


def check_net(net):
    """BadNet for what is no net."""
    if not isinstance(net, Net):
        raise BadNet("net")


def check_house(net, house, part):
    """BadNumber with the name of the parameter for no house of the net."""
    if not is_within(house, 0, net.houses - 1):
        raise BadNumber(part)


def places_of(net, house):
    """The neighbours of a house, ascending: they stand at its places 0, 1 and so on."""
    check_net(net)
    check_house(net, house, "house")
    return tuple(joined(net.ties, house))


def place_of(net, house, other):
    """The place at which the house other stands at a house, None if they are no neighbours."""
    check_net(net)
    check_house(net, house, "house")
    check_house(net, other, "other")
    neighbours = joined(net.ties, house)
    return neighbours.index(other) if other in neighbours else None


def distance(net, one, other):
    """How many ties a shortest way between two houses has."""
    check_net(net)
    check_house(net, one, "one")
    check_house(net, other, "other")
    return distances(net.ties, one)[other]


def farthest(net, house):
    """The greatest distance of a house to any one."""
    check_net(net)
    check_house(net, house, "house")
    return max(distances(net.ties, house).values())
