"""Calm runs: all houses do round after round together, and nothing is lost."""

from fairweather.checks import are_shorts, is_list
from fairweather.errors import BadNumber, BadStanding
from fairweather.nets import check_net, place_of, places_of
from fairweather.programs import check_program
from fairweather.standings import Standing, first_standing
from fairweather.turns import behind_round, deeds_of


def are_inputs(net, value):
    """Whether a value is a list of as many lists of shorts as a net has houses."""
    if not is_list(value) or len(value) != net.houses:
        return False
    return all([are_shorts(given, None) for given in value])


def seats_of(net):
    """For each house its neighbours, each with the place at which it has the house."""
    houses = range(net.houses)
    return [[(other, place_of(net, other, house)) for other in places_of(net, house)] for house in houses]


def can_go_on(runs, seat, given, done):
    """Whether a house that has done so many rounds can do one more."""
    return len(given) > done and all([len(runs[pair[0]]) > done for pair in seat])


def calm_run(program, net, inputs):
    """For each house the tuple of its standings, from the first one on, as far as it goes."""
    check_program(program)
    check_net(net)
    if not are_inputs(net, inputs):
        raise BadNumber("inputs")
    deeds = deeds_of(program.body)
    seats = seats_of(net)
    runs = [[first_standing(program, net, house)] for house in range(net.houses)]
    able = list(range(net.houses))
    done = 0
    while able:
        able = [house for house in able if can_go_on(runs, seats[house], inputs[house], done)]
        for house in able:
            heard = [runs[other][done].new[place] for other, place in seats[house]]
            standing = runs[house][done]
            runs[house].append(behind_round(program, deeds, net, house, standing, heard, inputs[house][done]))
        done += 1
    return tuple([tuple(run) for run in runs])


def calm_screens(program, net, inputs):
    """The tuple of the screens of all houses behind the calm run."""
    return tuple([screen_of(run) for run in calm_run(program, net, inputs)])


def screen_of(standings):
    """The tuple of all that a list of standings shows, in order."""
    if not is_list(standings) or not all([shows_shorts(standing) for standing in standings]):
        raise BadStanding("standings")
    return tuple([short for standing in standings for short in standing.shown])


def shows_shorts(value):
    """Whether a value is a standing with a list of shorts shown."""
    return isinstance(value, Standing) and are_shorts(value.shown, None)


def is_beginning(one, other):
    """Whether a list of shorts is a beginning of another one."""
    if not are_shorts(one, None):
        raise BadNumber("one")
    if not are_shorts(other, None):
        raise BadNumber("other")
    return list(one) == list(other[:len(one)])
