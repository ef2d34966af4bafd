"""Papers, which tell an answer and what shows it, and denials, which say no."""

from fairweather.checks import is_list


def fixed(value):
    """A value with tuples in the place of lists, all the way in; other values stay."""
    if is_list(value):
        return tuple([fixed(item) for item in value])
    return value


def are_alike(one, other):
    """Whether two papers are of one class and have equal words and parts."""
    if one.__class__.__name__ != other.__class__.__name__:
        return False
    return one.word == other.word and one.parts == other.parts


class Paper:
    """A paper: it is true. Each class of papers is below this one."""

    def __init__(self, word, *parts):
        self.word = fixed(word)
        self.parts = fixed(parts)

    def __bool__(self):
        return True

    def __eq__(self, other):
        return isinstance(other, Paper) and are_alike(self, other)


class Denial(Paper):
    """A paper that says no: it is false."""

    def __init__(self, word, *parts):
        self.word = fixed(word)
        self.parts = fixed(parts)

    def __bool__(self):
        return False

    def __eq__(self, other):
        return isinstance(other, Denial) and are_alike(self, other)
