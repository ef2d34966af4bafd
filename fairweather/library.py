"""A library of programs, which do their work in any net."""

from fairweather.checks import is_within
from fairweather.errors import BadNumber
from fairweather.nets import MOST_HOUSES
from fairweather.programs import Program


def check_number(number, part):
    """BadNumber for a number that no house of any net has."""
    if not is_within(number, 0, MOST_HOUSES - 1):
        raise BadNumber(part)


def routes(goal):
    """In each round a house shows its distance to a goal, as soon as it can be known."""
    check_number(goal, "goal")
    # A word is 1 more than the distance of who says it, so it is the distance of who hears it, and 0 tells of none.
    return Program.read(" ".join([
        "cells far -1 at 0 round",
        f"if ( me = {goal} ) then far := 0 end",
        "each at do if ( ( far < 0 ) and heard at ) then far := heard at end end",
        "each at do say ( far + 1 ) to at end",
        "show far end",
    ]))


def tree(root):
    """In each round a house shows its first place that leads nearer to a root, as soon as it can be known."""
    check_number(root, "root")
    return Program.read(" ".join([
        "cells far -1 up -1 at 0 round",
        f"if ( me = {root} ) then far := 0 end",
        "each at do if ( ( far < 0 ) and heard at ) then far := heard at up := at end end",
        "each at do say ( far + 1 ) to at end",
        "show up end",
    ]))


def leader():
    """In each round a house shows the greatest first input of all houses that it can know of."""
    # What is heard in the first round, 0, is nobody's input.
    return Program.read(" ".join([
        "cells best 0 begun 0 at 0 round",
        "if begun then each at do if ( best < heard at ) then best := heard at end end",
        "else best := input begun := 1 end",
        "each at do say best to at end",
        "show best end",
    ]))


def tally():
    """In each round a house shows how many houses it can know of."""
    # A word has a digit for each house, to the base 8: so the digits of six words add up without a carry.
    return Program.read(" ".join([
        "cells seen 0 both 0 digit 0 house 0 known 0 at 0 round",
        "both := seen each at do both := ( both + heard at ) end",
        "seen := 0 digit := 1 house := 0 known := 0",
        f"times {MOST_HOUSES} do",
        "if ( ( ( both div digit ) rem 8 ) or ( house = me ) ) then",
        "seen := ( seen + digit ) known := ( known + 1 ) end",
        "digit := ( digit * 8 ) house := ( house + 1 ) end",
        "each at do say seen to at end",
        "show known end",
    ]))


def echo():
    """In each round a house shows what lay at the keyboards of its neighbours in the round before."""
    return Program.read("cells at 0 round each at do show heard at say input to at end end")
