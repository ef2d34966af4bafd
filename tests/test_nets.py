import itertools
import unittest

from fairweather.errors import BadNet, BadNumber, BadText, Twice
from fairweather.nets import Net, distance, farthest, place_of, places_of
from tests.helpers import STRANGE, Raising, listed


def nets_of(houses):
    """All nets of so many houses."""
    pairs = list(itertools.combinations(range(houses), 2))
    for many in range(len(pairs) + 1):
        for ties in itertools.combinations(pairs, many):
            if in_one_piece(houses, ties):
                yield Net(houses, ties)


def in_one_piece(houses, ties):
    reached = {0}
    for _ in range(houses):
        reached |= {b for a, b in ties if a in reached} | {a for a, b in ties if b in reached}
    return len(reached) == houses


def ways(net):
    """The distance of each two houses, by Floyd and Warshall."""
    far = {(a, b): 0 if a == b else 99 for a in range(net.houses) for b in range(net.houses)}
    for a, b in net.ties:
        far[a, b] = far[b, a] = 1
    for mid, a, b in itertools.product(range(net.houses), repeat=3):
        far[a, b] = min(far[a, b], far[a, mid] + far[mid, b])
    return far


SHAPES = [Net(1, []), Net(2, [(0, 1)]), Net(3, [(0, 1), (1, 2)]), Net(4, [(0, 2), (1, 2), (2, 3)]),
          Net(5, [(0, 1), (1, 2), (2, 3), (3, 4), (0, 4)]), Net(6, list(itertools.combinations(range(6), 2))),
          Net(6, [(0, 5), (4, 5), (3, 4), (2, 3), (1, 2)])]


class MakingNets(Raising, unittest.TestCase):
    def test_attributes(self):
        net = Net(3, [[1, 2], (0, 1)])
        self.assertEqual((net.houses, net.ties), (3, ((0, 1), (1, 2))))
        self.assertIs(type(net.ties), tuple)
        self.assertIs(type(net.ties[1]), tuple)
        self.assertEqual(Net(1, ()).ties, ())
        self.assertEqual(Net(ties=[(0, 1)], houses=2).houses, 2)

    def test_ties_in_any_order(self):
        ties = [(0, 1), (0, 2), (1, 3), (2, 3)]
        for order in itertools.permutations(ties):
            net = Net(4, order)
            self.assertEqual(net.ties, tuple(ties))
            self.assertEqual(net, Net(4, listed(ties)))

    def test_every_small_net(self):
        for houses, many in ((1, 1), (2, 1), (3, 4), (4, 38), (5, 728)):
            self.assertEqual(len(list(nets_of(houses))), many)

    def test_what_is_changed_later_changes_nothing(self):
        tie, ties = [0, 1], []
        ties.append(tie)
        net = Net(2, ties)
        tie[0] = 7
        ties.append((0, 1))
        self.assertEqual(net.ties, ((0, 1),))

    def test_equality(self):
        self.assertIs(Net(2, [(0, 1)]) == Net(2, ([0, 1],)), True)
        for one, other in itertools.combinations(SHAPES, 2):
            self.assertIs(one == other, False)
            self.assertIs(one != other, True)
        for value in STRANGE + [1, (2, ((0, 1),)), "2 0 1"]:
            self.assertIs(Net(2, [(0, 1)]) == value, False)

    def test_houses_refused(self):
        for houses in STRANGE + [0, 7, -1, 100, [2], (2,)]:
            self.raises(BadNumber, {"part": "houses"}, Net, houses, [])
            self.raises(BadNumber, {"part": "houses"}, Net, houses, None)

    def test_ties_refused(self):
        for ties in STRANGE + [0, [0, 1], [(0,)], [(0, 1, 2)], [()], [(1, 0)], [(0, 0)], [(0, 3)], [(-1, 0)], [(0, True)],
                               [(False, 1)], [(0, "1")], ["01"], [None], [[(0, 1)]], [(0, 1), 2], [(0, 1), (2, 1)],
                               [(0, 1.0)], [{0, 1}], [(None, 1)], [([], 1)], [(0, [])]]:
            self.raises(BadNet, {"part": "ties"}, Net, 3, ties)
        self.raises(BadNet, {"part": "ties"}, Net, 1, [(0, 1)])
        self.raises(BadNet, {"part": "ties"}, Net, 6, [(0, 6)])

    def test_twice(self):
        self.raises(Twice, {"value": (0, 1)}, Net, 3, [(0, 1), (0, 1)])
        self.raises(Twice, {"value": (0, 1)}, Net, 3, [[0, 1], (0, 1)])
        self.raises(Twice, {"value": (0, 2)}, Net, 3, [[0, 1], [0, 2], [0, 2], [0, 1]])
        self.raises(Twice, {"value": (0, 1)}, Net, 6, [(0, 1), (0, 2), (0, 1), (0, 2)])

    def test_pieces(self):
        for houses, ties in ((2, []), (3, [(0, 1)]), (3, [(1, 2)]), (4, [(0, 1), (2, 3)]), (6, [(0, 1), (1, 2), (3, 4), (4, 5)]),
                             (6, [(0, 1), (1, 2), (0, 2), (3, 4), (4, 5), (3, 5)])):
            self.raises(BadNet, {"part": "pieces"}, Net, houses, ties)

    def test_order_of_refusals(self):
        self.raises(BadNet, {"part": "ties"}, Net, 3, [(0, 1), (0, 1), (2, 1)])
        self.raises(Twice, {"value": (0, 1)}, Net, 4, [(0, 1), (0, 1)])


class TextsOfNets(Raising, unittest.TestCase):
    def refused(self, item, text):
        self.raises(BadText, {"item": item}, Net.read, text)

    def test_texts(self):
        self.assertEqual([str(net) for net in SHAPES[:4]], ["1", "2 0 1", "3 0 1 / 1 2", "4 0 2 / 1 2 / 2 3"])
        self.assertEqual(str(Net(6, [(0, 5), (4, 5), (3, 4), (2, 3), (1, 2)])), "6 0 5 / 1 2 / 2 3 / 3 4 / 4 5")

    def test_reading_what_is_written(self):
        for houses in range(1, 6):
            for net in nets_of(houses):
                again = Net.read(str(net))
                self.assertEqual((again.houses, again.ties), (net.houses, net.ties))
                self.assertIs(type(again), Net)
        self.assertEqual(Net.read(text="6 0 5 / 1 2 / 2 3 / 3 4 / 4 5"), SHAPES[6])

    def test_no_strings(self):
        for value in STRANGE + [1, ["1"], ("1",), b"1"]:
            if not isinstance(value, str):
                self.refused(0, value)

    def test_first_items(self):
        for text in ("", " ", "0", "7", "01", "-1", "+1", "1.0", "a", " 1", "\n1", "1\n", "1\t0", "\u0661", "\u00b2", "6 ",
                     "9" * 5000, "-", "--1", "1_0"):
            items = text.split(" ")
            self.refused(0 if items[0] != "6" else 1, text)

    def test_bent_texts(self):
        for text, item in (("1 ", 1), ("1 /", 1), ("1 0", 2), ("1 0 0", 2), ("1 1", 1), ("2 0", 2), ("2 0 1 ", 3), ("2 -1 1", 1), ("0 0 1", 0),
                           ("4 0 1 / 1 2 / 0 3", 8), ("4 0 1 / 1 2 / 1 2", 8), ("4 0 1 / 1 3 / 1 2", 8),
                           ("2 0  1", 2), ("2  0 1", 1), ("2 0 1 0", 3), ("2 0 1 /", 4), ("2 0 1 / ", 4), ("2 0 1 / 0", 5),
                           ("2 0 1 / 0 1", 5), ("2 0 1 / 1", 5), ("2 0 1 / 1 1", 5), ("2 0 1 / 2", 4), ("2 1 0", 2),
                           ("2 0 0", 2), ("2 0 2", 2), ("2 1", 2), ("2 00 1", 1), ("2 0 01", 2), ("2 -0 1", 1), ("2 0 1 //", 3),
                           ("3 0 1 / 0 1", 5), ("3 0 2 / 0 1", 5), ("3 1 2 / 0", 5), ("3 1 2 / 0 1", 5), ("3 1 2 / 0 2", 5),
                           ("3 0 1 / 1 2 / 3", 7), ("3 0 1 / 1 2 / 2", 8), ("3 0 1 / 1 2 / 2 2", 8), ("3 0 1 / / 1 2", 4),
                           ("3 0 1 1 2", 3), ("2 x 1", 1), ("2 0 x", 2), ("2 0 " + "1" * 5000, 2)):
            self.refused(item, text)

    def test_pieces_show_in_the_whole(self):
        for text, item in (("2", 0), ("6", 0), ("3 0 1", 2), ("3 1 2", 2), ("4 0 1 / 2 3", 5)):
            self.refused(item, text)

    def test_each_item_bent(self):
        for net in SHAPES:
            items = str(net).split(" ")
            for at in range(len(items)):
                for bent in ("", "x", "+1", "00", "-0", "7", "1.", "\n"):
                    self.refused(at, " ".join(items[:at] + [bent] + items[at + 1:]))

    def test_each_text_cut_short(self):
        items = str(SHAPES[4]).split(" ")
        for many in range(1, len(items)):
            text = " ".join(items[:many])
            if many % 3 == 0:
                whole = in_one_piece(5, [tuple(map(int, tie.split())) for tie in text[2:].split(" / ")])
                if not whole:
                    self.refused(many - 1, text)
            else:
                self.refused(many if many > 1 else 0, text)


class AskingNets(Raising, unittest.TestCase):
    def test_places(self):
        for net in SHAPES + list(nets_of(4)):
            for house in range(net.houses):
                neighbours = tuple(sorted([b for a, b in net.ties if a == house] + [a for a, b in net.ties if b == house]))
                self.assertEqual(places_of(net, house), neighbours)
                self.assertIs(type(places_of(net, house)), tuple)
                for other in range(net.houses):
                    place = neighbours.index(other) if other in neighbours else None
                    self.assertEqual(place_of(net, house, other), place)
        self.assertEqual(places_of(SHAPES[0], 0), ())
        self.assertIsNone(place_of(SHAPES[0], 0, 0))
        self.assertEqual(place_of(other=0, house=1, net=SHAPES[1]), 0)
        self.assertEqual(places_of(house=1, net=SHAPES[1]), (0,))

    def test_distances(self):
        for net in SHAPES + list(nets_of(5)):
            far = ways(net)
            for one in range(net.houses):
                for other in range(net.houses):
                    self.assertEqual(distance(net, one, other), far[one, other])
                self.assertEqual(farthest(net, one), max(far[one, other] for other in range(net.houses)))
        self.assertEqual(distance(other=1, one=0, net=SHAPES[1]), 1)
        self.assertEqual(farthest(house=0, net=SHAPES[6]), 5)
        self.assertEqual(farthest(SHAPES[0], 0), 0)

    def test_errors(self):
        net = SHAPES[2]
        for value in STRANGE + [1, (3, ()), str(net)]:
            self.raises(BadNet, {"part": "net"}, places_of, value, None)
            self.raises(BadNet, {"part": "net"}, place_of, value, None, None)
            self.raises(BadNet, {"part": "net"}, distance, value, None, None)
            self.raises(BadNet, {"part": "net"}, farthest, value, None)
        for value in STRANGE + [-1, 3, 10 ** 30, [0], (0,)]:
            self.raises(BadNumber, {"part": "house"}, places_of, net, value)
            self.raises(BadNumber, {"part": "house"}, place_of, net, value, value)
            self.raises(BadNumber, {"part": "other"}, place_of, net, 0, value)
            self.raises(BadNumber, {"part": "one"}, distance, net, value, value)
            self.raises(BadNumber, {"part": "other"}, distance, net, 0, value)
            self.raises(BadNumber, {"part": "house"}, farthest, net, value)


if __name__ == "__main__":
    unittest.main()
