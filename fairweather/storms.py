"""Storms in which a world goes wrong: for numbers that are too small, and for each row of care that can be left out.

Each one is told as a program, a net, a weather, and the house whose screen shows that the world went wrong.
"""

from fairweather.computers import Computer
from fairweather.halves import CELLS_AT, FIRST_HALF, HALF_SIZE, TURNING, first_disk
from fairweather.houses import house_code
from fairweather.nets import Net
from fairweather.programs import Program
from fairweather.weathers import Weather

# What lies at the keyboard when a round is done first, and when it is done anew.
FIRST = 5
ANEW = 6

ADDING = "cells n 1 round n := ( n + 1 ) show n end"
SHOWING = "cells round show input end"
TELLING = "cells round say input to 0 show heard 0 end"
SAYING = "cells round say ( done + 1 ) to 0 show heard 0 end"


def alone():
    """The net of one house."""
    return Net(1, [])


def pair():
    """The net of two houses."""
    return Net(2, [(0, 1)])


def broken_off(program, net, m, left, address, keeps):
    """House 0 does its first round up to the writing at an address, and a cut keeps this writing alone, or none."""
    computer = Computer(house_code(program, net, 0, m, left), first_disk(program, net, 0))
    steps = 0
    effect = None
    while effect is None or effect[:2] != ("wrote", address):
        effect = computer.step(FIRST)
        steps += 1
    kept = (len(computer.waiting) - 1,) if keeps else ()
    return [("steps", 0, steps, FIRST), ("cut", 0, kept)]


def late_letter(m):
    """The first letter is held back until its number comes round, for letters overtaken (m - 1) div 2 times."""
    times = (m - 1) // 2
    events = [("beat", 0, 0), ("beat", 1, 0), ("beat", 1, 0), ("hand", 1, 0, 0), ("beat", 0, 0)]
    for _ in range(times):
        # House 0 is one round ahead: both words of its letter bring house 1 one round ahead of it, and then likewise.
        events.extend([("beat", 0, 0), ("hand", 0, 1, 0), ("beat", 1, 0), ("beat", 1, 0)])
        events.extend([("beat", 1, 0), ("hand", 1, 0, 0), ("beat", 0, 0), ("beat", 0, 0)])
    # One in each beat of house 0; none is gone, as no letter was overtaken more often than the first one.
    sent = 2 + 3 * times
    events.extend([("hand", 0, 1, sent - 1), ("beat", 1, 0)])
    return (Program.read(SAYING), pair(), Weather(events), 1)


def unsettled_half(m):
    """Row 0: a cut settles the turning cell, but not the half that it names."""
    program = Program.read(ADDING)
    events = broken_off(program, alone(), m, 0, TURNING, True)
    return (program, alone(), Weather([*events, ("beat", 0, 0)]), 0)


def unsettled_turn(_):
    """Row 1: a round is shown, then lost by a cut, and done anew with another input."""
    events = [("beat", 0, FIRST), ("cut", 0, ()), ("beat", 0, ANEW), ("beat", 0, 0)]
    return (Program.read(SHOWING), alone(), Weather(events), 0)


def early_word(m):
    """Row 2: a word goes out of a round that is lost by a cut, and done anew with another input."""
    program = Program.read(TELLING)
    events = broken_off(program, pair(), m, 2, FIRST_HALF + HALF_SIZE, False)
    heard = [("beat", 1, 0), ("hand", 0, 1, 0), ("beat", 1, 0)]
    return (program, pair(), Weather([*events, *heard, ("beat", 0, ANEW)]), 1)


def early_show(m):
    """Row 3: a round is shown, lost by a cut ahead of its keeping, and done anew with another input."""
    program = Program.read(SHOWING)
    events = broken_off(program, alone(), m, 3, FIRST_HALF + HALF_SIZE, False)
    return (program, alone(), Weather([*events, ("beat", 0, ANEW)]), 0)


def mixed_half(m):
    """Row 4: a cut settles one cell of the half that counts."""
    program = Program.read(ADDING)
    events = broken_off(program, alone(), m, 4, FIRST_HALF + CELLS_AT, True)
    return (program, alone(), Weather([*events, ("beat", 0, 0)]), 0)


def dropped_letters(_):
    """Row 5: letters are dropped, and nobody says them again."""
    drops = [("drop", 0, 1, 0), ("drop", 0, 1, 0), ("drop", 1, 0, 0), ("drop", 1, 0, 0)]
    return (Program.read(SAYING), pair(), Weather([("beat", 0, 0), ("beat", 1, 0), *drops]), 0)


def lacking_word(_):
    """Row 6: house 0 goes on ahead of house 1, which lacks its word."""
    events = [("beat", 0, 0), ("beat", 1, 0), ("beat", 1, 0), ("hand", 1, 0, 0), ("beat", 0, 0)]
    return (Program.read(SAYING), pair(), Weather(events), 1)


def waiting_screen(m):
    """Row 7: a cut comes behind the settling of a round, ahead of its showings."""
    program = Program.read(SHOWING)
    return (program, alone(), Weather(broken_off(program, alone(), m, 7, TURNING, True)), 0)


# The storm for each row of care that is left out.
STORMS = (unsettled_half, unsettled_turn, early_word, early_show, mixed_half, dropped_letters, lacking_word,
          waiting_screen)


def storm_for(m, left):
    """A storm for numbers that are too small, if left is None, otherwise for a row of care that is left out."""
    if left is None:
        return late_letter(m)
    storm = STORMS[left]
    return storm(m)
