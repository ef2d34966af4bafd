"""Which waves, and which papers on numbers and rows of care, are right."""

from fairweather.calm import calm_screens, is_beginning
from fairweather.checks import is_integer, is_within
from fairweather.exactly import Right, Still, Wrong, are_right, check_judged
from fairweather.falls import last_rounds
from fairweather.nets import Net
from fairweather.programs import Program
from fairweather.sweeps import shows_each_round, sweep
from fairweather.weathers import Weather, fits
from fairweather.worlds import World


def is_weather_of(net, value):
    """Whether any value is a weather of events of a net."""
    return isinstance(value, Weather) and all([fits(net, event) for event in value.events])


def shows_wave(program, net, m, s, house, rounds, value):
    """Whether any value is a weather behind which a house has fallen, and all others can come no farther."""
    world = World(program, net, m, s)
    last = last_rounds(net, house, rounds)
    if not is_weather_of(net, value):
        return False
    world.run(value)
    if world.fallen != tuple([other == house for other in range(net.houses)]) or world.done != last:
        return False
    world.run(sweep(net, 0))
    return world.done == last


def shows_judged(m, s, left, value):
    """Whether any value is a right paper on numbers and a row of care."""
    check_judged(m, s, left)
    if isinstance(value, Right):
        return is_right_pair(m, s, value) and are_right(m, s, left)
    if not isinstance(value, (Wrong, Still)) or not is_told(value):
        return False
    world = World(value.program, value.net, m, s, left)
    world.run(value.weather)
    if isinstance(value, Wrong):
        return is_wrong(world, value.house)
    return is_still(world, value.house)


def is_right_pair(m, s, value):
    """Whether a paper names just these two numbers."""
    # True and False equal numbers, but stand for none.
    return is_integer(value.m) and is_integer(value.s) and (value.m, value.s) == (m, s)


def is_told(value):
    """Whether a paper tells a program, a net, a weather of the net, and a house of it."""
    if not isinstance(value.program, Program) or not isinstance(value.net, Net):
        return False
    return is_weather_of(value.net, value.weather) and is_within(value.house, 0, value.net.houses - 1)


def is_wrong(world, house):
    """Whether the screen of a house is no beginning of the calm one."""
    screens = calm_screens(world.program, world.net, world.inputs)
    return not is_beginning(world.screens[house], screens[house])


def is_still(world, house):
    """Whether the screen of a house should grow in as many sweeps as there are houses, and does not."""
    if True in world.fallen or not shows_each_round(world.program):
        return False
    before = world.screens[house]
    for _ in range(world.net.houses):
        world.run(sweep(world.net, 0))
    return world.screens[house] == before
