"""Sweeps: rows of fair events, which bring everybody on."""

from fairweather.checks import is_short
from fairweather.errors import BadNumber
from fairweather.nets import check_net, places_of
from fairweather.programs import check_program
from fairweather.weathers import Weather


def beats(houses, given):
    """A beat of each of some houses, with the same short at the keyboard."""
    return [("beat", house, given) for house in houses]


def newest_letters(net):
    """On each line of a net the newest letter is handed out."""
    return [("hand", one, other, 0) for one in range(net.houses) for other in places_of(net, one)]


def sweep(net, given):
    """The weather of a sweep, with the same short at the keyboard in each beat."""
    check_net(net)
    if not is_short(given):
        raise BadNumber("given")
    each = beats(list(range(net.houses)), given)
    return Weather([*each, *each, *newest_letters(net), *each])


def shows_each_round(program):
    """Whether one of the statements of a program's body itself is a show."""
    check_program(program)
    return "show" in [statement[0] for statement in program.body]
