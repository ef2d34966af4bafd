import unittest

from fairweather.care import ROWS, is_wanted
from fairweather.errors import BadNumber, Misfit
from tests.helpers import STRANGE, Raising


class Care(Raising, unittest.TestCase):
    def test_rows(self):
        self.assertEqual(ROWS, (0, 1, 2, 3, 4, 5, 6, 7))
        self.assertIs(type(ROWS), tuple)

    def test_each_answer(self):
        for m in (2, 3, 4, 5, 7, 63, 64):
            for done in [*range(3 * m if m < 10 else m + 2), 10 ** 9 - 1, 10 ** 9, 10 ** 9 + 1, 2 ** 31, 10 ** 40]:
                for number in range(m):
                    own, ahead = (number - done) % m == 0, (number - done - 1) % m == 0
                    for has in (0, 1):
                        told = 1 if ahead else 0 if own and not has else None
                        answer = is_wanted(done, has, number, m)
                        self.assertEqual(answer, told, (done, has, number, m))
                        self.assertIs(type(answer), type(told))
        self.assertEqual(is_wanted(m=3, number=1, has=0, done=4), 0)

    def test_refused(self):
        for value in STRANGE + [-1, -10 ** 30, (0,)]:
            self.raises(BadNumber, {"part": "done"}, is_wanted, value, 0, 0, 3)
        for value in STRANGE + [-1, 2, (0,)]:
            self.raises(BadNumber, {"part": "has"}, is_wanted, 0, value, 0, 3)
        for value in STRANGE + [-1, 64, 10 ** 30, (0,)]:
            self.raises(BadNumber, {"part": "number"}, is_wanted, 0, 0, value, 3)
            self.raises(BadNumber, {"part": "number"}, is_wanted, 0, 0, value, 64)
        for value in STRANGE + [1, 0, -2, 65, (3,)]:
            self.raises(BadNumber, {"part": "m"}, is_wanted, 0, 0, 0, value)
        for m in (2, 3, 63):
            for number in (m, m + 1, 63):
                if number <= 63:
                    self.raises(Misfit, {"part": "number"}, is_wanted, 0, 0, number, m)

    def test_the_order_of_errors(self):
        wrong = [(0, -1, BadNumber, {"part": "done"}), (1, 2, BadNumber, {"part": "has"}), (2, 64, BadNumber, {"part": "number"}),
                 (3, 1, BadNumber, {"part": "m"})]
        self.raises_in_order(is_wanted, [0, 0, 0, 3], wrong)
        self.raises_in_order(is_wanted, [0, 0, 5, 3], wrong[:2])
        self.raises(BadNumber, {"part": "m"}, is_wanted, 0, 0, 5, 1)


if __name__ == "__main__":
    unittest.main()
