"""What a storm means: the standings and rounds that the houses of a world have kept."""

from fairweather.errors import BadWorld
from fairweather.halves import standing_in
from fairweather.nets import check_house, distance
from fairweather.worlds import World, check_weather


def check_world(world):
    """BadWorld for what is no world."""
    if not isinstance(world, World):
        raise BadWorld("world")


def standings_of(world):
    """For each house the standing that its disk tells by what is settled."""
    check_world(world)
    houses = range(world.net.houses)
    return tuple([standing_in(world.program, world.net, house, world.disk_of(house)) for house in houses])


def lead(world, one, other):
    """How many rounds more the house one has kept than the house other, below 0 for fewer."""
    check_world(world)
    check_house(world.net, one, "one")
    check_house(world.net, other, "other")
    return world.done[one] - world.done[other]


def spread(world):
    """Whether the kept rounds of no two houses differ by more than the ties between them."""
    check_world(world)
    houses = range(world.net.houses)
    pairs = [(one, other) for one in houses for other in houses]
    return all([lead(world, one, other) <= distance(world.net, one, other) for one, other in pairs])


def trail(program, net, m, s, left, weather):
    """For each event of a weather how many rounds the houses of a new world have kept behind it."""
    world = World(program, net, m, s, left)
    check_weather(net, weather)
    kept = []
    for event in weather.events:
        world.let_come(event)
        kept.append(world.done)
    return tuple(kept)
