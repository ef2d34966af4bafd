"""The code of a house: it wakes, and then does beat after beat."""

from fairweather.care import check_left
from fairweather.codes import Code
from fairweather.drafts import Draft
from fairweather.halves import (BASE_AT, CELLS_AT, COUNT_AT, DONE_AT, FIRST_HALF, HALF_SIZE, NEW_AT, NUMBER_AT, OLD_AT,
                                SHOWN_AT, TURNING, check_numbers)
from fairweather.layouts import CELLS, COUNT, DONE, HEARD, INPUT, SAID, SHOWN
from fairweather.seats import Seat
from fairweather.standings import MOST_SHOWN, check_seat
from fairweather.statements import write_statements

# What the memory has besides a round's own: the half that counts, its number and base, the number of a letter one
# ahead, and the last letter taken.
HALF = 100
NUMBER = 101
BASE = 102
NUMBER_AHEAD = 103
LETTER_NUMBER = 104
LETTER_NEW = 105
LETTER_OLD = 106

# For each place: the old word, whether a word is at hand, the next word, and whether there is one. The new word lies
# where the round says it, the word at hand where the round hears it.
OLD = 110
HAS = 120
NEXT = 130
HAS_NEXT = 140


class Keeper:
    """What the code of a house is made for: its program, its seat, the m of its numbers, the row of care left out."""

    def __init__(self, program, net, house, m, left):
        self.program = program
        self.seat = Seat(program, net, house)
        self.m = m
        self.left = left
        self.places = list(range(self.seat.many))
        self.cells = list(range(len(program.cells)))


def house_code(program, net, house, m, left=None):
    """The code of a house, numbers going by m, with a row of care left out, if any."""
    check_seat(program, net, house)
    check_numbers(m)
    check_left(left)
    keeper = Keeper(program, net, house, m, left)
    draft = Draft(0)
    write_waking(draft, keeper)
    beat = draft.here()
    write_letters_in_beat(draft, keeper)
    gaps = write_asking(draft, keeper)
    write_round(draft, keeper)
    for gap in gaps:
        draft.fill(gap)
    draft.write([("wait",), ("jump", beat)])
    return Code(draft.rows)


def write_copy(draft, source, goal):
    """Writes code that copies a short within the memory."""
    draft.write([("load", source), ("store", goal)])


def write_fixed(draft, short, goal):
    """Writes code that lays a short that is known ahead into the memory."""
    draft.write([("push", short), ("store", goal)])


def write_reading(draft, at, goal):
    """Writes code that reads a short of the half that counts into the memory."""
    draft.write([("load", HALF), ("push", at), ("+",), ("read",), ("store", goal)])


def write_writing(draft, source, at):
    """Writes code that writes a short of the memory to the half that is to count."""
    draft.write([("load", source), ("load", HALF), ("push", at), ("+",), ("write",)])


def write_waking(draft, keeper):
    """Writes code that reads the half that counts, and does what is done on waking."""
    draft.write([("push", TURNING), ("read",), ("not",), ("not",), ("push", HALF_SIZE), ("*",), ("push", FIRST_HALF),
                 ("+",), ("store", HALF)])
    for at, goal in ((DONE_AT, DONE), (NUMBER_AT, NUMBER), (BASE_AT, BASE), (COUNT_AT, COUNT)):
        write_reading(draft, at, goal)
    for at in range(MOST_SHOWN):
        write_reading(draft, SHOWN_AT + at, SHOWN + at)
    for place in keeper.places:
        write_reading(draft, NEW_AT + place, SAID + place)
        write_reading(draft, OLD_AT + place, OLD + place)
        # In round 0 words of 0, which the memory has by now, are at hand.
        draft.write([("load", DONE), ("not",), ("store", HAS + place)])
    for cell in keeper.cells:
        write_reading(draft, CELLS_AT + cell, CELLS + cell)
    if keeper.left != 7:
        write_showings(draft)
    if keeper.left == 5:
        write_sending(draft, keeper)


def write_showings(draft):
    """Writes code that shows what the last round shows."""
    gaps = []
    for at in range(MOST_SHOWN):
        draft.write([("push", at), ("load", COUNT), ("<",)])
        gaps.append(draft.leave("unless"))
        draft.write([("load", SHOWN + at), ("load", BASE), ("push", at), ("+",), ("show",)])
    for gap in gaps:
        draft.fill(gap)


def write_sending(draft, keeper):
    """Writes code that sends a letter over each place."""
    for place in keeper.places:
        old = ("push", 0) if keeper.left == 6 else ("load", OLD + place)
        draft.write([("load", NUMBER), ("load", SAID + place), old, ("send", place)])


def write_letters_in_beat(draft, keeper):
    """Writes code that sends letters, and takes and uses those that lie on the cards."""
    if keeper.left != 5:
        write_sending(draft, keeper)
    draft.write([("load", NUMBER), ("push", 1), ("+",), ("push", keeper.m), ("rem",), ("store", NUMBER_AHEAD)])
    for place in keeper.places:
        draft.write([("take", place)])
        gap = draft.leave("unless")
        write_using(draft, keeper, place)
        draft.fill(gap)


def write_using(draft, keeper, place):
    """Writes code that uses a letter which lies on the stack, if it is wanted."""
    draft.write([("store", LETTER_NUMBER), ("store", LETTER_NEW), ("store", LETTER_OLD)])
    draft.write([("load", LETTER_NUMBER), ("load", NUMBER), ("=",), ("load", HAS + place), ("not",), ("and",)])
    other = draft.leave("unless")
    write_copy(draft, LETTER_NEW, HEARD + place)
    write_fixed(draft, 1, HAS + place)
    if keeper.left == 6:
        draft.fill(other)
        return
    used = draft.leave("jump")
    draft.fill(other)
    draft.write([("load", LETTER_NUMBER), ("load", NUMBER_AHEAD), ("=",)])
    unwanted = draft.leave("unless")
    draft.write([("load", HAS + place), ("not",)])
    had = draft.leave("unless")
    write_copy(draft, LETTER_OLD, HEARD + place)
    write_fixed(draft, 1, HAS + place)
    draft.fill(had)
    write_copy(draft, LETTER_NEW, NEXT + place)
    write_fixed(draft, 1, HAS_NEXT + place)
    draft.fill(used)
    draft.fill(unwanted)


def write_asking(draft, keeper):
    """Writes code that goes on if a word of each place is at hand, and returns where it leaves otherwise."""
    gaps = []
    for place in keeper.places:
        draft.write([("load", HAS + place)])
        gaps.append(draft.leave("unless"))
    return gaps


def write_round(draft, keeper):
    """Writes code that does a round, keeps it, and tells of it."""
    draft.write([("input",), ("store", INPUT)])
    write_preparing(draft, keeper)
    write_statements(draft, keeper.seat, keeper.program.body)
    draft.write([("load", DONE), ("push", 1), ("+",), ("store", DONE)])
    write_copy(draft, NUMBER_AHEAD, NUMBER)
    if keeper.left == 2:
        write_sending(draft, keeper)
    if keeper.left == 3:
        write_showings(draft)
    write_keeping(draft, keeper)
    if keeper.left == 5:
        write_sending(draft, keeper)
    for place in keeper.places:
        write_copy(draft, NEXT + place, HEARD + place)
        write_copy(draft, HAS_NEXT + place, HAS + place)
        write_fixed(draft, 0, HAS_NEXT + place)
    if keeper.left != 3:
        write_showings(draft)


def write_preparing(draft, keeper):
    """Writes code that lays out the memory for a round, of what the last one left there."""
    draft.write([("load", BASE), ("load", COUNT), ("+",), ("store", BASE)])
    for place in keeper.places:
        write_copy(draft, SAID + place, OLD + place)
        write_fixed(draft, 0, SAID + place)
    write_fixed(draft, 0, COUNT)
    for at in range(MOST_SHOWN):
        write_fixed(draft, 0, SHOWN + at)


def write_keeping(draft, keeper):
    """Writes code that writes the standing to the half that does not count, and then lets this one count."""
    if keeper.left == 4:
        write_fixed(draft, FIRST_HALF, HALF)
    else:
        # The begins of both halves together, less one of them, are the other one.
        draft.write([("push", FIRST_HALF + FIRST_HALF + HALF_SIZE), ("load", HALF), ("-",), ("store", HALF)])
    for source, at in ((DONE, DONE_AT), (NUMBER, NUMBER_AT), (BASE, BASE_AT), (COUNT, COUNT_AT)):
        write_writing(draft, source, at)
    for at in range(MOST_SHOWN):
        write_writing(draft, SHOWN + at, SHOWN_AT + at)
    for place in keeper.places:
        write_writing(draft, SAID + place, NEW_AT + place)
    for place in keeper.places:
        write_writing(draft, OLD + place, OLD_AT + place)
    for cell in keeper.cells:
        write_writing(draft, CELLS + cell, CELLS_AT + cell)
    if keeper.left != 0:
        draft.write([("barrier",)])
    draft.write([("load", HALF), ("push", FIRST_HALF + HALF_SIZE), ("=",), ("push", TURNING), ("write",)])
    if keeper.left != 1:
        draft.write([("barrier",)])
