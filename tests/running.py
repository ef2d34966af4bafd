"""Runs code of an expression, a statement or a round by itself, and looks whether it keeps to what all such code promises."""

from fairweather.codes import is_instruction
from fairweather.shorts import SIGNS
from tests.machine import Machine
from tests.making import ENDS

ALLOWED = ("push", "load", "store", "fetch", "put", "not", "drop", "copy", "jump", "unless") + SIGNS
FREE = range(50, 100)


def some_memory(source):
    """Any memory: at each address any short."""
    return [source.choice(ENDS) for _ in range(1000)]


class Running:
    """For test cases."""

    def check_rows(self, rows, parts):
        """Code is a tuple of instructions of the kinds that are allowed, not too many for so many parts."""
        self.assertIs(type(rows), tuple)
        self.assertLessEqual(len(rows), 40 * parts)
        for row in rows:
            self.assertIs(type(row), tuple)
            self.assertIn(row[0], ALLOWED)
            # The row of a jump may be beyond those that a code can have.
            self.assertTrue(is_instruction((row[0], 0) if row[0] in ("jump", "unless") else row), row)

    def run_rows(self, rows, start, memory, stack, most):
        """The memory, as a list, and the stack behind code that starts at a row, in so many steps at most."""
        one = Machine([("wait",)] * start + list(rows), (), enumerate(memory))
        one.at, one.stack = start, list(stack)
        steps = 0
        end = start + len(rows)
        while one.at != end:
            self.assertTrue(start <= one.at < end, one.at)
            self.assertLess(steps, most)
            self.assertIsNone(one.step(0))
            steps += 1
        return [one.memory[at] for at in range(1000)], one.stack

    def same_memory(self, memory, told):
        """Both memories are equal but for what is free."""
        self.assertEqual([(at, memory[at]) for at in range(1000) if at not in FREE],
                         [(at, told[at]) for at in range(1000) if at not in FREE])
