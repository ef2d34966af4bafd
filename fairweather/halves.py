"""Halves of a disk: how a standing lies in one, and which one counts."""

from fairweather.checks import is_within
from fairweather.computers import are_disk_pairs
from fairweather.errors import BadNumber, BadStanding
from fairweather.nets import places_of
from fairweather.standings import MOST_SHOWN, Standing, check_seat, first_standing, is_standing

LEAST_NUMBERS = 2
MOST_NUMBERS = 64

# The turning cell names the half that counts.
TURNING = 0
FIRST_HALF = 20
HALF_SIZE = 80

# Where the parts of a standing lie in a half, counted from its begin.
DONE_AT = 0
NUMBER_AT = 1
BASE_AT = 2
COUNT_AT = 3
SHOWN_AT = 4
NEW_AT = 20
OLD_AT = 30
CELLS_AT = 40


def check_numbers(m):
    """BadNumber for no integer that the numbers on letters can go by."""
    if not is_within(m, LEAST_NUMBERS, MOST_NUMBERS):
        raise BadNumber("m")


def laid_out(standing, m, half):
    """The pairs of a standing in a half, ascending."""
    many = len(standing.shown)
    shown = list(standing.shown) + [0] * (MOST_SHOWN - many)
    rows = [
        (DONE_AT, [standing.done, standing.done % m, standing.base, many, *shown]),
        (NEW_AT, standing.new),
        (OLD_AT, standing.old),
        (CELLS_AT, standing.cells),
    ]
    begin = FIRST_HALF + HALF_SIZE * half
    return tuple([(begin + first + at, short) for first, shorts in rows for at, short in enumerate(shorts)])


def half_pairs(program, net, house, standing, m, half):
    """The pairs of an address and a short of a standing in a half, ascending."""
    if not is_standing(program, net, house, standing):
        raise BadStanding("standing")
    check_numbers(m)
    if not is_within(half, 0, 1):
        raise BadNumber("half")
    return laid_out(standing, m, half)


def begin_of_half(turning):
    """Where the half begins that the short in the turning cell names."""
    return FIRST_HALF if turning == 0 else FIRST_HALF + HALF_SIZE


def done_on(shorts):
    """How many rounds are done in the standing that a disk tells, its shorts being listed by their addresses."""
    return shorts[begin_of_half(shorts[TURNING]) + DONE_AT]


def standing_in(program, net, house, disk):
    """The standing in the half that counts of a disk, which is told by pairs."""
    check_seat(program, net, house)
    if not are_disk_pairs(disk):
        raise BadNumber("disk")
    shorts = dict([tuple(pair) for pair in disk])
    begin = begin_of_half(shorts.get(TURNING, 0))
    places = len(places_of(net, house))
    many = min(max(shorts.get(begin + COUNT_AT, 0), 0), MOST_SHOWN)
    return Standing(
        shorts.get(begin + DONE_AT, 0),
        read_row(shorts, begin + CELLS_AT, len(program.cells)),
        read_row(shorts, begin + NEW_AT, places),
        read_row(shorts, begin + OLD_AT, places),
        shorts.get(begin + BASE_AT, 0),
        read_row(shorts, begin + SHOWN_AT, many),
    )


def read_row(shorts, first, many):
    """So many shorts of a disk from an address on."""
    return [shorts.get(first + at, 0) for at in range(many)]


def first_disk(program, net, house):
    """The pairs of a disk on which nothing was done yet, ascending."""
    # No round is done, so the rest of done is 0, whatever the numbers go by.
    return ((TURNING, 0), *laid_out(first_standing(program, net, house), LEAST_NUMBERS, 0))
