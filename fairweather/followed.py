"""Whether a world follows the calm run of the inputs of its kept rounds."""

from fairweather.calm import calm_run, screen_of
from fairweather.meanings import check_world, standings_of
from fairweather.papers import Denial, Paper, fixed


class Followed(Paper):
    """The world follows the calm run of these inputs."""

    def __init__(self, inputs):
        Paper.__init__(self, "followed", inputs)
        self.inputs = fixed(inputs)


class Strayed(Denial):
    """The screen of this house is no beginning of the calm one: at this place it differs or is beyond."""

    def __init__(self, house, place):
        Denial.__init__(self, "strayed", house, place)
        self.house = fixed(house)
        self.place = fixed(place)


class Parted(Denial):
    """The kept standing of this house is not its last one in the calm run."""

    def __init__(self, house):
        Denial.__init__(self, "parted", house)
        self.house = fixed(house)


def stray_place(screen, calm):
    """The first place at which a screen differs from the calm one or is beyond, None if it is a beginning."""
    for place, short in enumerate(screen):
        if place >= len(calm) or short != calm[place]:
            return place
    return None


def strays_of(world, runs):
    """Each house whose screen is no beginning of what its run shows, with the first place that is none."""
    places = [stray_place(screen, screen_of(run)) for screen, run in zip(world.screens, runs)]
    return [(house, place) for house, place in enumerate(places) if place is not None]


def partings_of(world, runs):
    """The houses whose kept standing is not the last one of their run."""
    kept = standings_of(world)
    return [house for house, run in enumerate(runs) if kept[house] != run[-1]]


def followed(world):
    """The paper of whether a world follows the calm run of its inputs of kept rounds."""
    check_world(world)
    runs = calm_run(world.program, world.net, world.inputs)
    strays = strays_of(world, runs)
    if strays:
        house, place = strays[0]
        return Strayed(house, place)
    partings = partings_of(world, runs)
    return Parted(partings[0]) if partings else Followed(world.inputs)
