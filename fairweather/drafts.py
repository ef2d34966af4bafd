"""Drafts: code while it is written, with jumps to rows that are still to come."""


class Draft:
    """Rows of code that stand from some row on: it changes with each row that is written."""

    def __init__(self, start):
        self.start = start
        self.rows = []

    def here(self):
        """The row that is written next."""
        return self.start + len(self.rows)

    def write(self, rows):
        """Writes rows behind those that stand there."""
        self.rows.extend(rows)

    def leave(self, word):
        """Writes a jump or an unless to a row that is told later, and returns where it stands."""
        self.rows.append((word, 0))
        return len(self.rows) - 1

    def fill(self, gap):
        """The jump or unless that was left goes to the row that is written next."""
        self.rows[gap] = (self.rows[gap][0], self.here())
