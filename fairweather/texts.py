"""Texts: items with single blanks between, read one after the other."""

from fairweather.errors import BadText

# No number in a text has more digits, and Python refuses to read very long ones.
MOST_DIGITS = 10


def number_in(item, least, most):
    """The integer from least to most that an item writes, None if it writes none."""
    digits = item.removeprefix("-")
    if len(digits) > MOST_DIGITS or not digits.isascii() or not digits.isdigit():
        return None
    number = int(item)
    # Leading zeros and a minus ahead of 0 read as numbers that are written otherwise.
    if str(number) != item or not least <= number <= most:
        return None
    return number


class Reader:
    """A text while it is read: BadText tells the item that cannot stand, or that is missing."""

    def __init__(self, text):
        if not isinstance(text, str):
            raise BadText(0)
        self.pieces = text.split(" ")
        self.at = 0

    def ended(self):
        """Whether no item is left."""
        return self.at == len(self.pieces)

    def peek(self):
        """The next item, None if none is left."""
        return None if self.ended() else self.pieces[self.at]

    def refuse(self):
        """The next item cannot stand; if none is left, one is missing."""
        raise BadText(self.at)

    def refuse_whole(self):
        """Only the whole shows that the text is none: its last item cannot stand."""
        raise BadText(len(self.pieces) - 1)

    def take(self):
        """Goes behind the next item, which must be there, and returns it."""
        self.at += 1
        return self.pieces[self.at - 1]

    def take_word(self, word):
        """Goes behind the next item, which must be this word."""
        if self.peek() != word:
            self.refuse()
        self.at += 1

    def take_number(self, least, most):
        """Goes behind the next item, which must write an integer from least to most, and returns this."""
        number = None if self.ended() else number_in(self.pieces[self.at], least, most)
        if number is None:
            self.refuse()
        self.at += 1
        return number

    def close(self):
        """Nothing may be left."""
        if not self.ended():
            self.refuse()
