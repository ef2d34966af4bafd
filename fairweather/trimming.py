"""Trimming: a code whose rows are taken away, one after the other, as long as it does alike.

Rows are told by the numbers that they had at first. What jumps name are labels: all jumps to one row share its label,
so that they go elsewhere together.
"""

from fairweather.shorts import ACTS, reckoned


class Trimming:
    """The rows of a code that are left, in a chain, and what they name."""

    def __init__(self, rows):
        many = len(rows)
        self.end = many
        # What stands ahead of the first row; it is no row, nor is the end.
        self.top = many + 1
        self.rows = [*rows, ("end",), ("top",)]
        self.ahead = [self.top, *list(range(many)), None]
        self.behind = [*list(range(1, many + 1)), None, 0]
        self.left = [True] * many + [False, False]
        self.labels = list(range(many + 1))
        self.owners = list(range(many + 1))
        self.joined = list(range(many + 1))
        self.namers = [0] * (many + 1)
        for row in rows:
            if row[0] in ("jump", "unless"):
                self.namers[row[1]] += 1
        self.due = list(range(many))

    def root(self, label):
        """The label that stands for this one and all that were joined with it."""
        while self.joined[label] != label:
            self.joined[label] = self.joined[self.joined[label]]
            label = self.joined[label]
        return label

    def goal(self, row):
        """The row that a jump or an unless names."""
        return self.owners[self.root(self.rows[row][1])]

    def is_named(self, row):
        """Whether some row names this one."""
        label = self.labels[row]
        return label is not None and self.namers[label] > 0

    def touch(self, row):
        """This row and the two ahead of it may have to be looked at again."""
        ahead = self.ahead[row]
        self.due.append(row)
        self.due.append(ahead)
        if ahead != self.top:
            self.due.append(self.ahead[ahead])

    def rename(self, row, other):
        """Whatever names a row names another one instead."""
        label = self.labels[row]
        if label is None:
            return
        self.labels[row] = None
        if self.labels[other] is None:
            self.labels[other] = label
            self.owners[label] = other
        else:
            root = self.labels[other]
            self.joined[label] = root
            self.namers[root] += self.namers[label]

    def forget_goal(self, row):
        """A jump or an unless names nothing any more."""
        root = self.root(self.rows[row][1])
        self.namers[root] -= 1
        if self.namers[root] == 0:
            self.touch(self.owners[root])

    def take_out(self, row):
        """Takes a row away; what named it names the row behind it."""
        self.left[row] = False
        ahead, behind = self.ahead[row], self.behind[row]
        self.behind[ahead] = behind
        self.ahead[behind] = ahead
        self.rename(row, behind)
        if self.rows[row][0] in ("jump", "unless"):
            self.forget_goal(row)
        self.touch(behind)

    def look_at_all(self):
        """Takes away and changes rows until none that is due has to be."""
        while self.due:
            row = self.due.pop()
            # An earlier one may have taken this one away.
            if self.left[row]:
                self.look_at(row)

    def look_at(self, row):
        """Takes away or changes what has to be, of a row and what stands just behind it."""
        if self.rows[self.ahead[row]][0] == "jump" and not self.is_named(row):
            self.take_out(row)
        elif self.rows[row][0] == "jump":
            self.look_at_jump(row)
        elif self.rows[row][0] == "push":
            self.look_at_push(row)

    def look_at_jump(self, row):
        """A jump to the next row does nothing, and to go to a jump is to go where it goes."""
        goal = self.goal(row)
        if goal == self.behind[row]:
            self.take_out(row)
        elif goal != row and self.is_named(row):
            self.rename(row, goal)
            self.touch(goal)
            self.touch(row)

    def look_at_push(self, row):
        """What is pushed and used up in the next row, which nobody names, is reckoned ahead."""
        user = self.behind[row]
        if user == self.end or self.is_named(user):
            return
        word = self.rows[user][0]
        if word == "not":
            self.rows[row] = ("push", 1 if self.rows[row][1] == 0 else 0)
            self.take_out(user)
        elif word == "drop":
            self.take_out(user)
            self.take_out(row)
        elif word == "unless":
            self.decide(row, user)
        elif word == "push":
            self.look_at_sign(row, user, self.behind[user])

    def decide(self, row, test):
        """A test of what is pushed in the row ahead of it is a jump, or does nothing."""
        if self.rows[row][1] == 0:
            # One more row names the goal until the test is taken away.
            self.namers[self.root(self.rows[test][1])] += 1
            self.rows[row] = ("jump", self.rows[test][1])
            self.take_out(test)
        else:
            self.take_out(test)
            self.take_out(row)

    def look_at_sign(self, row, other, user):
        """What a sign makes of two shorts that are pushed just ahead of it is pushed instead."""
        if user == self.end or self.is_named(user) or self.rows[user][0] not in ACTS:
            return
        number = reckoned(self.rows[user][0], self.rows[row][1], self.rows[other][1])
        self.rows[row] = ("push", number)
        self.take_out(other)
        self.take_out(user)

    def reached(self):
        """For each row whether it is reached."""
        found = [False] * len(self.rows)
        rest = [self.behind[self.top]]
        while rest:
            row = rest.pop()
            if row == self.end or found[row]:
                continue
            found[row] = True
            if self.rows[row][0] in ("jump", "unless"):
                rest.append(self.goal(row))
            if self.rows[row][0] != "jump":
                rest.append(self.behind[row])
        return found

    def take_out_unreached(self):
        """Takes away the rows that are not reached."""
        found = self.reached()
        gone = [row for row, is_left in enumerate(self.left) if is_left and not found[row]]
        for row in gone:
            self.take_out(row)

    def order(self):
        """The rows that are left, in order."""
        found = []
        row = self.behind[self.top]
        while row != self.end:
            found.append(row)
            row = self.behind[row]
        return found

    def trimmed(self):
        """The instructions that are left when nothing more is to be taken away."""
        while self.due:
            self.look_at_all()
            # Rows that reach but each other are found by going through all that are left.
            self.take_out_unreached()
        order = self.order()
        places = {row: place for place, row in enumerate([*order, self.end])}
        found = [self.rows[row] for row in order]
        for place, row in enumerate(order):
            if self.rows[row][0] in ("jump", "unless"):
                found[place] = (self.rows[row][0], places[self.goal(row)])
        return found
