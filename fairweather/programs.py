"""Programs: cells, and a body that each house does in each round."""

from fairweather.checks import is_list, is_short, repeated
from fairweather.errors import BadProgram, Twice, Unknown
from fairweather.limits import MOST_CELLS, MOST_LEVELS, MOST_PARTS, MOST_WEIGHT
from fairweather.papers import fixed
from fairweather.sources import Source, read_whole
from fairweather.trees import is_name, is_tree, names_in, weight_of


def is_cell(value):
    """Whether a value is a pair of a name and a short."""
    return is_list(value) and len(value) == 2 and is_name(value[0]) and is_short(value[1])


def are_cells(value):
    """Whether a value is a list of cells, not too many."""
    return is_list(value) and len(value) <= MOST_CELLS and all([is_cell(cell) for cell in value])


def first_unknown(names, cells):
    """The first name that no cell has, None if there is none."""
    known = [cell[0] for cell in cells]
    for name in names:
        if name not in known:
            return name
    return None


class Program:
    """A program, written once for all houses of a net."""

    def __init__(self, cells, body):
        if not are_cells(cells):
            raise BadProgram("cells")
        again = repeated([cell[0] for cell in cells])
        if again is not None:
            raise Twice(again)
        if not is_tree("list", body, MOST_LEVELS, MOST_PARTS):
            raise BadProgram("body")
        if weight_of(body) > MOST_WEIGHT:
            raise BadProgram("long")
        unknown = first_unknown(names_in(body), cells)
        if unknown is not None:
            raise Unknown(unknown)
        self.cells = fixed(cells)
        self.body = fixed(body)

    def __eq__(self, other):
        return isinstance(other, Program) and self.cells == other.cells and self.body == other.body

    def __str__(self):
        return " ".join([row.lstrip() for row in program_rows(self)])

    @staticmethod
    def read(text):
        """The program whose text this is."""
        source = Source(text)
        cells, body = read_whole(source)
        if weight_of(body) > MOST_WEIGHT:
            source.refuse_whole()
        return Program(cells, body)


def check_program(program):
    """BadProgram for what is no program."""
    if not isinstance(program, Program):
        raise BadProgram("program")


def rows_of(program):
    """The program as a person sees it, a tuple of texts."""
    check_program(program)
    return tuple(program_rows(program))


def program_rows(program):
    """The rows of a program."""
    cells = " ".join(["cells", *[f"{name} {number}" for name, number in program.cells]])
    return [cells, "round", *rows_in(program.body, "  "), "end"]


def rows_in(statements, ahead):
    """The rows of a list of statements, with some blanks ahead of each."""
    return [row for statement in statements for row in statement_rows(statement, ahead)]


def statement_rows(statement, ahead):
    """The rows of a statement, with some blanks ahead of each."""
    deeper = f"{ahead}  "
    if statement[0] == "if":
        yes = rows_in(statement[2], deeper)
        no = [f"{ahead}else", *rows_in(statement[3], deeper)] if statement[3] else []
        return [f"{ahead}if {text_of(statement[1])} then", *yes, *no, f"{ahead}end"]
    if statement[0] in ("each", "times"):
        head = f"{ahead}{statement[0]} {statement[1]} do"
        return [head, *rows_in(statement[2], deeper), f"{ahead}end"]
    if statement[0] == "say":
        return [f"{ahead}say {text_of(statement[1])} to {text_of(statement[2])}"]
    if statement[0] == "show":
        return [f"{ahead}show {text_of(statement[1])}"]
    return [f"{ahead}{statement[1]} := {text_of(statement[2])}"]


def text_of(expression):
    """The text of an expression."""
    word = expression[0]
    if word in ("short", "name"):
        return str(expression[1])
    if word in ("heard", "not"):
        return f"{word} {text_of(expression[1])}"
    if len(expression) == 3:
        return f"( {text_of(expression[1])} {word} {text_of(expression[2])} )"
    return word
