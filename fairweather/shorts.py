"""Shorts, and what the signs of the language make of two of them."""

from fairweather.checks import is_integer, is_short
from fairweather.errors import BadNumber

SIGNS = ("+", "-", "*", "div", "rem", "<", "=", "and", "or")


def short_of(number):
    """The short that differs from an integer by a multiple of 4294967296."""
    return (number + 2147483648) % 4294967296 - 2147483648


def wrapped(number):
    """The short that an integer wraps to."""
    if not is_integer(number):
        raise BadNumber("number")
    return short_of(number)


def added(one, other):
    """The sum of two shorts."""
    return short_of(one + other)


def taken_from(one, other):
    """What other leaves of one."""
    return short_of(one - other)


def multiplied(one, other):
    """The product of two shorts."""
    return short_of(one * other)


def divided(one, other):
    """How many times other is in one, rounded down; 0 for a division by 0."""
    return short_of(one // other) if other != 0 else 0


def left_over(one, other):
    """What the division rounded down leaves; 0 for a division by 0."""
    return one % other if other != 0 else 0


def is_less(one, other):
    """1 if one is less, else 0."""
    return 1 if one < other else 0


def is_equal(one, other):
    """1 if both are equal, else 0."""
    return 1 if one == other else 0


def are_both(one, other):
    """1 if neither is 0, else 0."""
    return 1 if one != 0 and other != 0 else 0


def is_any(one, other):
    """1 if one of them at least is not 0, else 0."""
    return 1 if one != 0 or other != 0 else 0


# What each sign does to two values that are known to be shorts.
ACTS = {
    "+": added,
    "-": taken_from,
    "*": multiplied,
    "div": divided,
    "rem": left_over,
    "<": is_less,
    "=": is_equal,
    "and": are_both,
    "or": is_any,
}


def reckoned(sign, one, other):
    """The short that a sign makes of two shorts."""
    if not isinstance(sign, str) or sign not in SIGNS:
        raise BadNumber("sign")
    if not is_short(one):
        raise BadNumber("one")
    if not is_short(other):
        raise BadNumber("other")
    act = ACTS[sign]
    return act(one, other)
