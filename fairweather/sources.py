"""Reading the text of a program."""

from fairweather.checks import LEAST_SHORT, MOST_SHORT
from fairweather.limits import MOST_CELLS, MOST_LEVELS, MOST_PARTS
from fairweather.shorts import SIGNS
from fairweather.texts import Reader
from fairweather.trees import MOST_TIMES, is_name


class Source(Reader):
    """The text of a program while it is read, with the names of its cells, and how many parts have begun."""

    def __init__(self, text):
        Reader.__init__(self, text)
        self.names = []
        self.begun = 0

    def begin_part(self, level):
        """The next item begins a part of this level, if there may be one more."""
        if level > MOST_LEVELS or self.begun == MOST_PARTS:
            self.refuse()
        self.begun += 1

    def take_new_name(self):
        """Goes behind the next item, which must be the name of one more cell, and returns it."""
        name = self.peek()
        if not is_name(name) or name in self.names or len(self.names) == MOST_CELLS:
            self.refuse()
        self.names.append(name)
        return self.take()

    def take_one_of(self, words):
        """Goes behind the next item, which must be one of these words, and returns it."""
        if self.peek() not in words:
            self.refuse()
        return self.take()


def read_whole(source):
    """The cells and the body of a program, from its first item to its last one."""
    source.take_word("cells")
    cells = read_cells(source)
    body = read_statements(source, 1, ("end",))
    source.take_word("end")
    source.close()
    return (cells, body)


def read_cells(source):
    """The cells up to the word that begins the body, and this word."""
    cells = []
    while source.peek() != "round":
        name = source.take_new_name()
        cells.append((name, source.take_number(LEAST_SHORT, MOST_SHORT)))
    source.take_word("round")
    return cells


def read_statements(source, level, ends):
    """The statements of a list, up to one of the words that can end it."""
    statements = []
    while source.peek() not in ends:
        statements.append(read_statement(source, level))
    return statements


def read_statement(source, level):
    """One statement of a level."""
    source.begin_part(level)
    word = source.take_one_of(["if", "each", "times", "say", "show", *source.names])
    if word == "if":
        return read_if(source, level + 1)
    if word == "each":
        name = source.take_one_of(source.names)
        return ("each", name, read_block(source, level + 1))
    if word == "times":
        count = source.take_number(0, MOST_TIMES)
        return ("times", count, read_block(source, level + 1))
    if word == "say":
        value = read_expression(source, level + 1)
        source.take_word("to")
        return ("say", value, read_expression(source, level + 1))
    if word == "show":
        return ("show", read_expression(source, level + 1))
    source.take_word(":=")
    return ("set", word, read_expression(source, level + 1))


def read_block(source, level):
    """The list of an each or a times, and the words around it."""
    source.take_word("do")
    statements = read_statements(source, level, ("end",))
    source.take_word("end")
    return statements


def read_if(source, level):
    """What stands behind the first word of an if, its parts having this level."""
    asked = read_expression(source, level)
    source.take_word("then")
    yes = read_statements(source, level, ("else", "end"))
    no = []
    if source.peek() == "else":
        source.take_word("else")
        # Without a statement there would be no else, so the first one must be there.
        no = [read_statement(source, level), *read_statements(source, level, ("end",))]
    source.take_word("end")
    return ("if", asked, yes, no)


def read_expression(source, level):
    """One expression of a level."""
    source.begin_part(level)
    word = source.peek()
    if word in source.names:
        return ("name", source.take())
    if word in ("me", "many", "houses", "input", "done"):
        return (source.take(),)
    if word in ("heard", "not"):
        source.take_word(word)
        return (word, read_expression(source, level + 1))
    if word == "(":
        return read_sign(source, level + 1)
    return ("short", source.take_number(LEAST_SHORT, MOST_SHORT))


def read_sign(source, level):
    """A sign and the expressions beside it, which have this level, in their parentheses."""
    source.take_word("(")
    one = read_expression(source, level)
    sign = source.take_one_of(SIGNS)
    other = read_expression(source, level)
    source.take_word(")")
    return (sign, one, other)
