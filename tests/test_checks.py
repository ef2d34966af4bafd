import unittest

from fairweather.checks import are_integers, are_shorts, is_integer, is_lot, is_short, is_within
from tests.helpers import STRANGE, nested

LEAST, MOST = -2147483648, 2147483647


class Checks(unittest.TestCase):
    def yes(self, value):
        self.assertIs(value, True)

    def no(self, value):
        self.assertIs(value, False)

    def test_is_integer(self):
        for value in (0, 1, -1, LEAST, MOST, 10 ** 50, -10 ** 50):
            self.yes(is_integer(value))
        for value in STRANGE + [[], [1], (), (1,), nested(30)]:
            self.no(is_integer(value))
        self.yes(is_integer(value=3))

    def test_is_within(self):
        for value, least, most in ((3, 3, 3), (3, None, 3), (3, 3, None), (3, None, None), (-10 ** 30, None, 0),
                                   (10 ** 30, 0, None), (0, -1, 1), (-5, -5, -4)):
            self.yes(is_within(value, least, most))
        for value, least, most in ((3, 4, None), (3, None, 2), (3, 4, 2), (3, 4, 5), (3, 1, 2), (-1, 0, None), (0, 1, 0)):
            self.no(is_within(value, least, most))
        for value in STRANGE + [[], (1,), nested(30)]:
            self.no(is_within(value, None, None))
            self.no(is_within(value, 0, 2))
        self.yes(is_within(most=2, least=0, value=1))

    def test_are_integers(self):
        for value in ([], (), [1], (1,), [3, 3, -5], (10 ** 30, 0)):
            self.yes(are_integers(value))
        for value in STRANGE + [1, [True], (False,), [1, True], [[1]], [1, None], ([],), ["1"], [1.0], nested(30)]:
            self.no(are_integers(value))
        self.yes(are_integers(value=[1]))

    def test_is_lot(self):
        for value, many in (([], 0), ((), 0), ([], 5), ([0], 1), ((0, 1, 2), 3), ([0, 2], 3), ((4,), 5), (list(range(99)), 99)):
            self.yes(is_lot(value, many))
        for value, many in (([0], 0), ([3], 3), ([0, 0], 3), ([1, 0], 3), ([-1], 3), ([-1, 0], 3), ([0, 1, 1], 3),
                            ([0, 3], 3), ([2, 0], 3), ([5, 1], 3), ([1, 2, 0], 3), ([0], -1)):
            self.no(is_lot(value, many))
            self.no(is_lot(tuple(value), many))
        for value in STRANGE + [0, 1, [True], [False], [0, True], [0.0], ["0"], [None], [[0]], nested(30)]:
            self.no(is_lot(value, 5))
        self.yes(is_lot(many=3, value=[1]))

    def test_is_short(self):
        for value in (LEAST, LEAST + 1, -1, 0, 1, MOST - 1, MOST):
            self.yes(is_short(value))
        for value in STRANGE + [LEAST - 1, MOST + 1, 10 ** 40, -10 ** 40, [1], (1,), nested(30)]:
            self.no(is_short(value))
        self.yes(is_short(value=0))

    def test_are_shorts(self):
        for value, many in (([], 0), ([], None), ((), None), ([LEAST, MOST], 2), ((5, -5), 2), ((0,), 1), ([7] * 2000, None)):
            self.yes(are_shorts(value, many))
        for value, many in (([1], 0), ([1], 2), ([], 1), ([MOST + 1], 1), ([LEAST - 1], None), ([1, True], 2),
                            ([False], None), ([1, "2"], 2), ([None], 1), ([[1]], 1)):
            self.no(are_shorts(value, many))
            self.no(are_shorts(tuple(value), many))
        for value in STRANGE + [1, nested(30), [nested(29)]]:
            self.no(are_shorts(value, None))
            self.no(are_shorts(value, 1))
            self.no(are_shorts(value, 0))
        self.yes(are_shorts(many=1, value=[1]))


if __name__ == "__main__":
    unittest.main()
