"""Lines: the letters between a house and a neighbour."""

from fairweather.checks import are_shorts, is_within
from fairweather.errors import BadNumber

MOST_LATE = 8
MOST_BACK = 99


def check_late(s):
    """BadNumber for no integer that tells how often a letter can be overtaken."""
    if not is_within(s, 0, MOST_LATE):
        raise BadNumber("s")


class Line:
    """The letters that lie between two houses: it changes with each one that is sent, handed out or dropped."""

    def __init__(self, late):
        if not is_within(late, 0, MOST_LATE):
            raise BadNumber("late")
        self.late = late
        self.lying = []

    @property
    def letters(self):
        """Each letter with how often it was overtaken, in the order in which they were sent."""
        return tuple(self.lying)

    def send(self, letter):
        """Puts a letter behind all others."""
        if not are_shorts(letter, 3):
            raise BadNumber("letter")
        self.lying.append((tuple(letter), 0))

    def place_back(self, back):
        """Where the letter lies that so many were sent behind, None if there is none."""
        if not is_within(back, 0, MOST_BACK):
            raise BadNumber("back")
        return len(self.lying) - 1 - back if back < len(self.lying) else None

    def hand(self, back):
        """Hands a letter out, of which a copy stays, and returns it, None if there is none."""
        place = self.place_back(back)
        if place is None:
            return None
        ahead = [(letter, times + 1) for letter, times in self.lying[:place] if times < self.late]
        letter = self.lying[place][0]
        self.lying = [*ahead, *self.lying[place:]]
        return letter

    def drop(self, back):
        """Takes a letter off; returns whether there was one."""
        place = self.place_back(back)
        if place is None:
            return False
        del self.lying[place]
        return True

    def restore(self, letters):
        """Lets these letters lie here, as `letters` told them."""
        self.lying = list(letters)
