"""Rounds: what one house makes of what it hears and of what is given to it."""

from fairweather.checks import are_shorts, is_short
from fairweather.errors import BadNumber, BadProgram, BadStanding, Unknown
from fairweather.limits import MOST_LEVELS
from fairweather.nets import places_of
from fairweather.programs import first_unknown
from fairweather.standings import is_standing
from fairweather.trees import all_names_in, is_tree
from fairweather.turns import Turn, behind_round, deeds_of, teller_of


def check_round(program, net, house, standing, heard, given):
    """The errors that a value and a round have in common."""
    if not is_standing(program, net, house, standing):
        raise BadStanding("standing")
    if not are_shorts(heard, len(places_of(net, house))):
        raise BadNumber("heard")
    if not is_short(given):
        raise BadNumber("given")


def value_of(program, net, house, standing, heard, given, expression):
    """The short that an expression has in a round, the cells being those of the standing."""
    check_round(program, net, house, standing, heard, given)
    if not is_tree("expression", expression, MOST_LEVELS):
        raise BadProgram("expression")
    unknown = first_unknown(all_names_in([expression]), program.cells)
    if unknown is not None:
        raise Unknown(unknown)
    tell = teller_of(expression)
    return tell(Turn(program, net, house, standing, heard, given))


def next_standing(program, net, house, standing, heard, given):
    """The standing behind one round."""
    check_round(program, net, house, standing, heard, given)
    return behind_round(program, deeds_of(program.body), net, house, standing, heard, given)
