"""From expressions to instructions."""

from fairweather.checks import is_within
from fairweather.drafts import Draft
from fairweather.errors import BadNumber, BadProgram, Unknown
from fairweather.layouts import CELLS, DONE, FREE, HEARD, INPUT
from fairweather.limits import MOST_LEVELS, MOST_PARTS
from fairweather.papers import fixed
from fairweather.programs import first_unknown
from fairweather.seats import Seat
from fairweather.standings import check_seat
from fairweather.trees import all_names_in, is_tree

MOST_START = 10000


def check_start(start):
    """BadNumber for no row at which code may start."""
    if not is_within(start, 0, MOST_START):
        raise BadNumber("start")


def check_cells(trees, program):
    """Unknown for the first name in several parts that is no cell of the program."""
    unknown = first_unknown(all_names_in(trees), program.cells)
    if unknown is not None:
        raise Unknown(unknown)


def expression_code(program, net, house, expression, start=0):
    """The code of an expression for a house of the net, from the row start on."""
    check_seat(program, net, house)
    if not is_tree("expression", expression, MOST_LEVELS, MOST_PARTS):
        raise BadProgram("expression")
    check_start(start)
    check_cells([expression], program)
    draft = Draft(start)
    write_expression(draft, Seat(program, net, house), fixed(expression))
    return tuple(draft.rows)


def write_expression(draft, seat, expression):
    """Writes code that pushes the value of an expression."""
    for inner in expression[1:]:
        if isinstance(inner, tuple):
            write_expression(draft, seat, inner)
    word = expression[0]
    if word == "heard":
        write_address(draft, seat, HEARD)
        draft.write([("fetch",)])
    elif word == "not" or len(expression) == 3:
        # The instruction of each of these has the word of the expression.
        draft.write([(word,)])
    else:
        draft.write([leaf_row(seat, expression)])


def leaf_row(seat, expression):
    """The instruction that pushes the value of an expression in which no other one stands."""
    word = expression[0]
    if word == "name":
        return ("load", CELLS + seat.names.index(expression[1]))
    if word == "input":
        return ("load", INPUT)
    if word == "done":
        return ("load", DONE)
    if word == "short":
        return ("push", expression[1])
    told = {"me": seat.me, "many": seat.many, "houses": seat.houses}
    return ("push", told[word])


def write_address(draft, seat, first):
    """Writes code that pops a place, and pushes its address, the first one being that of place 0; -1 for no place."""
    # Of no place 0 times the address is left, and one less is no address of the memory.
    draft.write([
        ("store", FREE),
        ("push", -1), ("load", FREE), ("<",),
        ("load", FREE), ("push", seat.many), ("<",),
        ("and",),
        ("load", FREE), ("push", first + 1), ("+",),
        ("*",),
        ("push", 1), ("-",),
    ])
