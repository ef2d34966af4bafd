import unittest

from fairweather.errors import BadNumber
from fairweather.shorts import SIGNS, reckoned, wrapped
from tests.helpers import STRANGE, Raising

LEAST, MOST, SPAN = -2147483648, 2147483647, 4294967296
ENDS = (LEAST, LEAST + 1, -65536, -7, -2, -1, 0, 1, 2, 7, 65536, MOST - 1, MOST)


def told(sign, one, other):
    """What the document tells of a sign, as an integer that may still wrap."""
    if sign in ("div", "rem") and other == 0:
        return 0
    return {"+": lambda: one + other, "-": lambda: one - other, "*": lambda: one * other, "div": lambda: one // other,
            "rem": lambda: one - other * (one // other), "<": lambda: int(one < other), "=": lambda: int(one == other),
            "and": lambda: int(one != 0 and other != 0), "or": lambda: int(one != 0 or other != 0)}[sign]()


class Shorts(Raising, unittest.TestCase):
    def test_signs(self):
        self.assertEqual(SIGNS, ("+", "-", "*", "div", "rem", "<", "=", "and", "or"))
        self.assertIs(type(SIGNS), tuple)

    def test_wrapped(self):
        for number in ENDS:
            for turns in (0, 1, -1, 2, 3, -5, 10 ** 20, -10 ** 20, 10 ** 500):
                self.assertEqual(wrapped(number + turns * SPAN), number)
        self.assertEqual(wrapped(MOST + 1), LEAST)
        self.assertEqual(wrapped(LEAST - 1), MOST)
        self.assertEqual(wrapped(number=2 * SPAN + 3), 3)

    def test_wrapped_refuses(self):
        for value in STRANGE + [[1], (1,), []]:
            self.raises(BadNumber, {"part": "number"}, wrapped, value)

    def test_each_sign_at_the_ends(self):
        for sign in SIGNS:
            for one in ENDS:
                for other in ENDS:
                    result = reckoned(sign, one, other)
                    self.assertIs(type(result), int)
                    self.assertTrue(LEAST <= result <= MOST)
                    self.assertEqual((result - told(sign, one, other)) % SPAN, 0, (sign, one, other))

    def test_reckoned_by_hand(self):
        for sign, one, other, result in (
                ("+", MOST, 1, LEAST), ("-", LEAST, 1, MOST), ("*", LEAST, -1, LEAST), ("*", MOST, MOST, 1),
                ("div", 7, -2, -4), ("div", -7, -2, 3), ("div", LEAST, -1, LEAST), ("div", 0, 0, 0), ("div", LEAST, 0, 0),
                ("rem", -7, 2, 1), ("rem", 7, -2, -1), ("rem", 7, 0, 0), ("rem", LEAST, -1, 0), ("<", LEAST, MOST, 1),
                ("<", 0, 0, 0), ("<", 1, 0, 0), ("=", LEAST, LEAST, 1), ("=", LEAST, MOST, 0), ("and", LEAST, MOST, 1),
                ("and", 0, 1, 0), ("and", 1, 0, 0), ("and", 0, 0, 0), ("or", 0, 0, 0), ("or", 0, LEAST, 1), ("or", 5, 0, 1),
                ("or", 2, 4, 1)):
            self.assertEqual(reckoned(sign, one, other), result, (sign, one, other))
        self.assertEqual(reckoned(other=2, one=5, sign="-"), 3)

    def test_errors_in_order(self):
        for sign in STRANGE + [0, "+ ", "not", "/", "AND", ("+",), ["+"], []]:
            self.raises(BadNumber, {"part": "sign"}, reckoned, sign, 1, 1)
            self.raises(BadNumber, {"part": "sign"}, reckoned, sign, None, None)
        for value in STRANGE + [MOST + 1, LEAST - 1, [1], (1,)]:
            for sign in SIGNS:
                self.raises(BadNumber, {"part": "one"}, reckoned, sign, value, 1)
                self.raises(BadNumber, {"part": "one"}, reckoned, sign, value, value)
                self.raises(BadNumber, {"part": "other"}, reckoned, sign, 0, value)


if __name__ == "__main__":
    unittest.main()
