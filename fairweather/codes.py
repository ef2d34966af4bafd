"""Codes: the instructions that a computer does, row by row."""

from fairweather.checks import is_list, is_within
from fairweather.errors import BadCode
from fairweather.papers import fixed
from fairweather.shorts import SIGNS
from fairweather.texts import Reader

MOST_ROWS = 10000

# The least and the greatest number of each instruction that has one.
NUMBERS = {
    "push": (-2147483648, 2147483647),
    "load": (0, 999),
    "store": (0, 999),
    "jump": (0, 10000),
    "unless": (0, 10000),
    "send": (0, 4),
    "take": (0, 4),
}

# The instructions without a number, besides the signs.
PLAIN = ("fetch", "put", "not", "drop", "copy", "read", "write", "barrier", "input", "show", "wait")


def is_instruction(value):
    """Whether any value is an instruction: a list of its word and, if it has one, its number."""
    if not is_list(value) or len(value) == 0 or not isinstance(value[0], str):
        return False
    word = value[0]
    if word in NUMBERS:
        least, most = NUMBERS[word]
        return len(value) == 2 and is_within(value[1], least, most)
    return len(value) == 1 and (word in PLAIN or word in SIGNS)


def is_target_beyond(rows):
    """Whether one of several instructions goes to a row above how many they are."""
    return any([row[0] in ("jump", "unless") and row[1] > len(rows) for row in rows])


def are_rows(value):
    """Whether a value is a list of instructions that make a code."""
    if not is_list(value) or not 1 <= len(value) <= MOST_ROWS:
        return False
    return all([is_instruction(row) for row in value]) and not is_target_beyond(value)


class Code:
    """Rows of instructions; who goes through a code gets them in order."""

    def __init__(self, rows):
        if not are_rows(rows):
            raise BadCode("rows")
        self.rows = fixed(rows)

    def __eq__(self, other):
        return isinstance(other, Code) and self.rows == other.rows

    def __len__(self):
        return len(self.rows)

    def __iter__(self):
        return iter(self.rows)

    def __str__(self):
        return " / ".join([" ".join([str(part) for part in row]) for row in self.rows])

    @staticmethod
    def read(text):
        """The code whose text this is."""
        reader = Reader(text)
        rows = [read_row(reader)]
        # Behind the last row that a code can have no bar can stand.
        while not reader.ended() and len(rows) < MOST_ROWS:
            reader.take_word("/")
            rows.append(read_row(reader))
        reader.close()
        if is_target_beyond(rows):
            reader.refuse_whole()
        return Code(rows)


def read_row(reader):
    """The instruction that stands next in a text."""
    word = reader.peek()
    if word in NUMBERS:
        reader.take_word(word)
        least, most = NUMBERS[word]
        return (word, reader.take_number(least, most))
    if word not in PLAIN and word not in SIGNS:
        reader.refuse()
    return (reader.take(),)
