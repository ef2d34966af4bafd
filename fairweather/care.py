"""Care: its rows, and which letters a house uses."""

from fairweather.checks import is_within
from fairweather.errors import BadNumber, Misfit
from fairweather.halves import MOST_NUMBERS, check_numbers

ROWS = (0, 1, 2, 3, 4, 5, 6, 7)


def check_left(left):
    """BadNumber for no row of care that can be left out, nor None."""
    if left is not None and not is_within(left, 0, len(ROWS) - 1):
        raise BadNumber("left")


def is_wanted(done, has, number, m):
    """How a house uses a letter: 0 if its new word comes to hand, 1 if this is the next one, None if not at all."""
    if not is_within(done, 0, None):
        raise BadNumber("done")
    if not is_within(has, 0, 1):
        raise BadNumber("has")
    if not is_within(number, 0, MOST_NUMBERS - 1):
        raise BadNumber("number")
    check_numbers(m)
    if number >= m:
        raise Misfit("number")
    if number == done % m and has == 0:
        return 0
    return 1 if number == (done + 1) % m else None
