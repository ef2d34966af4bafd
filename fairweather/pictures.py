"""Pictures of worlds, and of how the houses of a world come on."""

from fairweather.calm import calm_screens
from fairweather.meanings import check_world, trail
from fairweather.nets import places_of
from fairweather.weathers import event_text


def numbers_text(numbers):
    """The text of some numbers."""
    return " ".join([str(number) for number in numbers])


def letter_texts(world, one, other):
    """For each letter on a line, in order, the text of its number, its words and how often it was overtaken."""
    return [numbers_text([*letter, times]) for letter, times in world.line_of(one, other)]


def house_rows(world, house, calm):
    """The rows of a house: what it shows in the calm run, and what its screen has taken."""
    fallen = ["fallen"] if world.fallen[house] else []
    return [
        " ".join(["calm", numbers_text([house, *calm])]),
        " ".join(["seen", numbers_text([house, *world.screens[house]]), *fallen]),
    ]


def line_row(world, one, other):
    """The row of the line between two neighbours."""
    return " / ".join([f"line {one} {other}", *letter_texts(world, one, other)])


def picture(world):
    """The rows of a picture of a world, a tuple of texts."""
    check_world(world)
    screens = calm_screens(world.program, world.net, world.inputs)
    houses = range(world.net.houses)
    rows = [row for house in houses for row in house_rows(world, house, screens[house])]
    lines = [line_row(world, one, other) for one in houses for other in places_of(world.net, one)]
    return tuple([*rows, *lines])


def track(program, net, m, s, left, weather):
    """For each event of a weather a row: its text, and how many rounds the houses have kept behind it."""
    kept = trail(program, net, m, s, left, weather)
    return tuple([f"{event_text(event)} : {numbers_text(done)}" for event, done in zip(weather.events, kept)])
