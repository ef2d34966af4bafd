"""Exactly when all goes well: the numbers and rows of care that are right, and what shows that others are not."""

from fairweather.care import check_left
from fairweather.halves import check_numbers
from fairweather.lines import check_late
from fairweather.papers import Denial, Paper, fixed
from fairweather.storms import storm_for

# Without these rows of care a screen stands still; without any other one it shows what is wrong.
STILL_ROWS = (5, 6, 7)


class Right(Paper):
    """With these numbers, and with all rows of care, each screen is at every step a beginning of the calm one."""

    def __init__(self, m, s):
        Paper.__init__(self, "right", m, s)
        self.m = fixed(m)
        self.s = fixed(s)


class Wrong(Denial):
    """Behind this weather the screen of this house is no beginning of the calm one."""

    def __init__(self, program, net, weather, house):
        Denial.__init__(self, "wrong", program, net, weather, house)
        self.program = fixed(program)
        self.net = fixed(net)
        self.weather = fixed(weather)
        self.house = fixed(house)


class Still(Denial):
    """Behind this weather the screen of this house stands still, however fair the weather is then."""

    def __init__(self, program, net, weather, house):
        Denial.__init__(self, "still", program, net, weather, house)
        self.program = fixed(program)
        self.net = fixed(net)
        self.weather = fixed(weather)
        self.house = fixed(house)


def check_judged(m, s, left):
    """BadNumber for what are no numbers and no row of care, None excepted."""
    check_numbers(m)
    check_late(s)
    check_left(left)


def least_number(s):
    """The least m that is right if a letter can be overtaken so often."""
    check_late(s)
    return 2 * s + 3


def are_right(m, s, left):
    """Whether numbers are right with a row of care left out, or with None."""
    return left is None and m >= least_number(s)


def judged(m, s, left=None):
    """The paper of whether numbers are right with a row of care left out, if any."""
    check_judged(m, s, left)
    if are_right(m, s, left):
        return Right(m, s)
    program, net, weather, house = storm_for(m, left)
    if left in STILL_ROWS:
        return Still(program, net, weather, house)
    return Wrong(program, net, weather, house)
