"""Seats: what the code of a program takes for certain about its house."""

from fairweather.nets import places_of


class Seat:
    """A house of a net that does a program."""

    def __init__(self, program, net, house):
        self.names = [cell[0] for cell in program.cells]
        self.me = house
        self.many = len(places_of(net, house))
        self.houses = net.houses
