"""Which papers on what a world follows are right."""

from fairweather.calm import are_inputs, calm_run
from fairweather.checks import is_integer
from fairweather.followed import Followed, Parted, Strayed, partings_of, strays_of
from fairweather.meanings import check_world


def shows_followed(world, value):
    """Whether any value is a right paper on what a world follows."""
    check_world(world)
    if isinstance(value, Followed):
        return is_right_followed(world, value.inputs)
    if isinstance(value, Strayed):
        return is_right_strayed(world, value.house, value.place)
    return isinstance(value, Parted) and is_right_parted(world, value.house)


def is_right_followed(world, inputs):
    """Whether a value is inputs whose calm run a world follows."""
    if not are_inputs(world.net, inputs):
        return False
    runs = calm_run(world.program, world.net, inputs)
    return not strays_of(world, runs) and not partings_of(world, runs)


def is_right_strayed(world, house, place):
    """Whether two values are a house whose screen is no beginning, and the first place that shows it."""
    # True and False equal numbers, but stand for none.
    if not is_integer(house) or not is_integer(place):
        return False
    return (house, place) in strays_of(world, calm_run(world.program, world.net, world.inputs))


def is_right_parted(world, house):
    """Whether a value is a house that has parted, all screens being beginnings."""
    if not is_integer(house):
        return False
    runs = calm_run(world.program, world.net, world.inputs)
    return not strays_of(world, runs) and house in partings_of(world, runs)
