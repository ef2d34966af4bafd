import random
import unittest

from fairweather.errors import BadNumber
from fairweather.lines import Line
from tests.helpers import STRANGE, Raising, nested

LEAST, MOST = -2147483648, 2147483647


def letter(number):
    return (number, 10 * number, -number)


def line_of(late, many):
    line = Line(late)
    for number in range(many):
        line.send(letter(number))
    return line


class Lines(Raising, unittest.TestCase):
    def test_nothing_lies_on_a_new_one(self):
        for late in range(9):
            for line in (Line(late), Line(late=late)):
                self.assertEqual((line.late, line.letters), (late, ()))
                self.assertIs(type(line.letters), tuple)
                self.assertEqual((line.hand(0), line.hand(99), line.drop(0), line.drop(99)), (None, None, False, False))

    def test_sending(self):
        line = Line(2)
        words = [1, LEAST, MOST]
        self.assertIsNone(line.send(words))
        words[0] = 5
        self.assertIsNone(line.send(letter=(4, 5, 6)))
        self.assertIsNone(line.send((4, 5, 6)))
        self.assertEqual(line.letters, (((1, LEAST, MOST), 0), ((4, 5, 6), 0), ((4, 5, 6), 0)))
        self.assertTrue(all(type(each) is tuple for pair in line.letters for each in (pair, pair[0])))

    def test_handing_out_at_all_distances(self):
        for late in range(9):
            for many in range(12):
                for back in [*range(13), 98, 99]:
                    line = line_of(late, many)
                    told = letter(many - 1 - back) if back < many else None
                    self.assertEqual(line.hand(back), told)
                    ahead = max(0, many - 1 - back) if told else 0
                    if late:
                        self.assertEqual(line.letters, tuple((letter(at), int(at < ahead)) for at in range(many)))
                    else:
                        self.assertEqual(line.letters, tuple((letter(at), 0) for at in range(ahead, many)))

    def test_overtaken_letters_that_are_gone(self):
        for late in range(9):
            line = line_of(late, 3)
            for turn in range(1, late + 1):
                self.assertEqual(line.hand(1), letter(1))
                self.assertEqual(line.letters, ((letter(0), turn), (letter(1), 0), (letter(2), 0)))
            self.assertEqual(line.hand(1), letter(1))
            self.assertEqual(line.letters, ((letter(1), 0), (letter(2), 0)))
            self.assertEqual(line.hand(1), letter(1))
            self.assertEqual(line.letters, ((letter(1), 0), (letter(2), 0)))
            line.hand(0)
            self.assertEqual(line.letters, ((letter(1), 1), (letter(2), 0)) if late else ((letter(2), 0),))

    def test_a_copy_stays_with_what_it_was_overtaken(self):
        line = line_of(3, 4)
        line.hand(0)
        line.hand(2)
        self.assertEqual(line.letters, ((letter(0), 2), (letter(1), 1), (letter(2), 1), (letter(3), 0)))
        self.assertEqual([line.hand(back=3), line.hand(3)], [letter(0)] * 2)
        self.assertEqual(line.letters, ((letter(0), 2), (letter(1), 1), (letter(2), 1), (letter(3), 0)))

    def test_dropping_at_all_distances(self):
        for many in range(6):
            for back in [*range(7), 99]:
                line = line_of(1, many)
                line.hand(0)
                before = line.letters
                self.assertIs(line.drop(back), back < many)
                gone = many - 1 - back
                self.assertEqual(line.letters, tuple(pair for at, pair in enumerate(before) if at != gone))

    def test_100_letters(self):
        line = line_of(8, 101)
        self.assertEqual(line.hand(99), letter(1))
        self.assertIs(line.drop(99), True)
        self.assertEqual([pair[0] for pair in line.letters], [letter(at) for at in range(101) if at != 1])
        self.assertEqual(line.letters[0], (letter(0), 1))

    def test_at_random(self):
        source = random.Random(71)
        for _ in range(200):
            late = source.randrange(9)
            line, told = Line(late), []
            for number in range(60):
                back = source.randrange(6)
                at = len(told) - 1 - back
                deed = source.randrange(4)
                if deed < 2:
                    line.send(letter(number))
                    told.append((letter(number), 0))
                elif deed == 2:
                    self.assertEqual(line.hand(back), told[at][0] if at >= 0 else None)
                    told = [(each, times + (index < at)) for index, (each, times) in enumerate(told)]
                    told = [pair for pair in told if pair[1] <= late]
                else:
                    self.assertIs(line.drop(back), at >= 0)
                    told = [pair for index, pair in enumerate(told) if index != at]
                self.assertEqual(line.letters, tuple(told))

    def test_refused(self):
        for value in STRANGE + [-1, 9, 10 ** 30, (0,)]:
            self.raises(BadNumber, {"part": "late"}, Line, value)
        line = line_of(0, 3)
        for value in STRANGE + [-1, 100, 10 ** 30, (0,)]:
            self.raises(BadNumber, {"part": "back"}, line.hand, value)
            self.raises(BadNumber, {"part": "back"}, line.drop, value)
        for value in STRANGE + [(), (1, 2), (1, 2, 3, 4), (1, 2, MOST + 1), (1, True, 3), (1, 2, "3"), [[1, 2, 3]], 5, nested(30)]:
            self.raises(BadNumber, {"part": "letter"}, line.send, value)
        self.assertEqual(line.letters, tuple((letter(at), 0) for at in range(3)))
        self.assertIs(line.drop(back=2), True)


if __name__ == "__main__":
    unittest.main()
