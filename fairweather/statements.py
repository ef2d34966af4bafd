"""From statements, and from a whole round, to instructions."""

from fairweather.drafts import Draft
from fairweather.errors import BadProgram
from fairweather.expressions import check_cells, check_start, write_address, write_expression
from fairweather.layouts import CELLS, COUNT, SAID, SHOWN
from fairweather.limits import MOST_LEVELS, MOST_PARTS, MOST_WEIGHT
from fairweather.papers import fixed
from fairweather.seats import Seat
from fairweather.standings import MOST_SHOWN, check_seat
from fairweather.trees import is_tree, weight_in


def statement_code(program, net, house, statement, start=0):
    """The code of a statement for a house of the net, from the row start on."""
    check_seat(program, net, house)
    if not is_tree("statement", statement, MOST_LEVELS, MOST_PARTS) or weight_in(statement) > MOST_WEIGHT:
        raise BadProgram("statement")
    check_start(start)
    check_cells([statement], program)
    return code_of(Seat(program, net, house), [fixed(statement)], start)


def round_code(program, net, house, start=0):
    """The code of a round for a house of the net, from the row start on."""
    check_seat(program, net, house)
    check_start(start)
    return code_of(Seat(program, net, house), program.body, start)


def code_of(seat, statements, start):
    """The code of a list of statements, from the row start on."""
    draft = Draft(start)
    write_statements(draft, seat, statements)
    return tuple(draft.rows)


def write_statements(draft, seat, statements):
    """Writes code that does statements, one after the other."""
    for statement in statements:
        write_statement(draft, seat, statement)


def write_statement(draft, seat, statement):
    """Writes code that does a statement."""
    word = statement[0]
    if word == "set":
        write_expression(draft, seat, statement[2])
        draft.write([("store", cell_address(seat, statement[1]))])
    elif word == "if":
        write_if(draft, seat, statement)
    elif word == "each":
        write_each(draft, seat, statement)
    elif word == "times":
        write_times(draft, seat, statement)
    elif word == "say":
        write_expression(draft, seat, statement[1])
        write_expression(draft, seat, statement[2])
        write_address(draft, seat, SAID)
        draft.write([("put",)])
    else:
        write_show(draft, seat, statement)


def cell_address(seat, name):
    """Where the memory has a cell."""
    return CELLS + seat.names.index(name)


def write_if(draft, seat, statement):
    """Writes code that does one of two lists."""
    write_expression(draft, seat, statement[1])
    past_yes = draft.leave("unless")
    write_statements(draft, seat, statement[2])
    if not statement[3]:
        draft.fill(past_yes)
        return
    past_no = draft.leave("jump")
    draft.fill(past_yes)
    write_statements(draft, seat, statement[3])
    draft.fill(past_no)


def write_each(draft, seat, statement):
    """Writes code that does a list for each place."""
    # The place stays on the stack while the list is done, as that may set the cell.
    draft.write([("push", 0)])
    again = draft.here()
    draft.write([("copy",), ("push", seat.many), ("<",)])
    out = draft.leave("unless")
    draft.write([("copy",), ("store", cell_address(seat, statement[1]))])
    write_statements(draft, seat, statement[2])
    draft.write([("push", 1), ("+",), ("jump", again)])
    draft.fill(out)
    draft.write([("drop",)])


def write_times(draft, seat, statement):
    """Writes code that does a list so often."""
    # How often it is still to be done stays on the stack.
    draft.write([("push", statement[1])])
    again = draft.here()
    draft.write([("copy",)])
    out = draft.leave("unless")
    write_statements(draft, seat, statement[2])
    draft.write([("push", 1), ("-",), ("jump", again)])
    draft.fill(out)
    draft.write([("drop",)])


def write_show(draft, seat, statement):
    """Writes code that shows a value, if not too many were shown."""
    write_expression(draft, seat, statement[1])
    draft.write([("load", COUNT), ("push", MOST_SHOWN), ("<",)])
    full = draft.leave("unless")
    draft.write([("load", COUNT), ("push", SHOWN), ("+",), ("put",)])
    draft.write([("load", COUNT), ("push", 1), ("+",), ("store", COUNT)])
    past_full = draft.leave("jump")
    draft.fill(full)
    draft.write([("drop",)])
    draft.fill(past_full)
