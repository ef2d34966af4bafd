import unittest

from fairweather.exactly import Right, Still, Wrong, judged
from fairweather.followed import Followed, Parted, Strayed
from fairweather.papers import Denial, Paper, fixed
from tests.helpers import STRANGE, Agreeing, nested


class Note(Paper):
    def __init__(self, one, other=0):
        Paper.__init__(self, "note", one, other)
        self.one = fixed(one)


class Other(Paper):
    def __init__(self, one, other=0):
        Paper.__init__(self, "note", one, other)


class No(Denial):
    def __init__(self, one):
        Denial.__init__(self, "no", one)


class Foreign:
    """No paper, though its class has the name of one."""

    def __init__(self, word, *parts):
        self.word, self.parts = word, parts


class Papers(unittest.TestCase):
    def test_a_name_makes_no_paper(self):
        for kind in (Paper, Denial):
            Foreign.__name__ = kind.__name__
            self.assertIs(kind("note", 1) == Foreign("note", 1), False)

    def test_word_and_parts(self):
        for kind in (Paper, Denial):
            paper = kind("note", 1, [2, (3, [4])], "x", None, True)
            self.assertEqual(paper.word, "note")
            self.assertEqual(paper.parts, (1, (2, (3, (4,))), "x", None, True))
            self.assertIs(type(paper.parts), tuple)
            self.assertIs(type(paper.parts[1][1][1]), tuple)
            self.assertEqual(kind("none").parts, ())
            self.assertIs(type(kind("none").parts), tuple)
            self.assertEqual(kind(word="named").word, "named")

    def test_truth(self):
        for paper in (Paper("a"), Paper("a", 0), Paper("", False), Note(0)):
            self.assertIs(bool(paper), True)
        for paper in (Denial("a"), Denial("a", 1), Denial("", True), No(1)):
            self.assertIs(bool(paper), False)

    def test_denials_are_papers(self):
        self.assertTrue(issubclass(Denial, Paper))
        self.assertFalse(issubclass(Paper, Denial))

    def test_equality(self):
        self.assertIs(Paper("a", 1, [2]) == Paper("a", 1, (2,)), True)
        self.assertIs(Denial("a", 1) == Denial("a", 1), True)
        self.assertIs(Paper("a", 1) == Paper("a", True), True)
        self.assertIs(Paper("a", 1) != Paper("a", 1), False)
        for one, other in ((Paper("a"), Paper("b")), (Paper("a", 1), Paper("a", 2)), (Paper("a", 1), Paper("a")),
                           (Paper("a", 1, 2), Paper("a", (1, 2))), (Denial("a", 1), Denial("a", 2)),
                           (Denial("a"), Denial("b")), (Paper("a"), Denial("a"))):
            self.assertIs(one == other, False)
            self.assertIs(other == one, False)
            self.assertIs(one != other, True)

    def test_equality_wants_the_same_class(self):
        self.assertIs(Note(1) == Note([1][0]), True)
        for one, other in ((Note(1), Other(1)), (Note(1), Paper("note", 1, 0)), (No(1), Denial("no", 1)),
                           (No(1), Note(1)), (Note(1), Denial("note", 1, 0))):
            self.assertIs(one == other, False)
            self.assertIs(other == one, False)
        for value in STRANGE + [("note", 1), [1], 0]:
            self.assertIs(Paper("note", 1) == value, False)
            self.assertIs(Denial("note", 1) == value, False)
            self.assertIs(Paper("note", 1) != value, True)

    def test_another_value_does_not_decide(self):
        self.assertIs(Paper("a") == Agreeing(), False)
        self.assertIs(Denial("a") == Agreeing(), False)

    def test_interface_stands_in_each_class(self):
        for kind in (Paper, Denial):
            for name in ("__init__", "__eq__"):
                self.assertIn(name, vars(kind))

    def test_what_is_changed_later_changes_nothing(self):
        for kind in (Paper, Denial):
            inner = [1]
            outer = [inner, (inner,)]
            paper = kind("a", outer, inner)
            inner.append(2)
            outer.append(3)
            self.assertEqual(paper.parts, (((1,), ((1,),)), (1,)))

    def test_fixed(self):
        table = {"a": [1]}
        self.assertEqual(fixed([[], table, (1, [2, ([],)])]), ((), {"a": [1]}, (1, (2, ((),)))))
        self.assertIs(fixed([table])[0], table)
        for value in STRANGE + [0, 5, "abc", 10 ** 40]:
            self.assertIs(fixed(value), value)
        self.assertEqual(fixed([]), ())
        self.assertEqual(fixed(()), ())

        def all_tuples(value):
            return not isinstance(value, list) and all(map(all_tuples, value if isinstance(value, tuple) else ()))
        self.assertTrue(all_tuples(fixed(nested(30, [5]))))
        self.assertEqual(fixed(value=[1]), (1,))


# Each class of papers with the names of its parts.
CLASSES = [(Followed, ("inputs",)), (Strayed, ("house", "place")), (Parted, ("house",)), (Right, ("m", "s")),
           (Wrong, ("program", "net", "weather", "house")), (Still, ("program", "net", "weather", "house"))]


class AllClasses(unittest.TestCase):
    def values(self):
        """Values of all kinds, a paper and nested lists among them."""
        return STRANGE + [0, -7, 10 ** 40, [], [1, [2, [3]]], ([],), nested(30, [5]), Paper("note", [1]), judged(2, 0), {"a": [1]},
                          ["x", {"a": [1]}]]

    def test_by_place_and_by_name(self):
        for kind, names in CLASSES:
            for at in range(len(names)):
                for value in self.values():
                    values = [index for index in range(len(names))]
                    values[at] = value
                    for paper in (kind(*values), kind(**dict(reversed(list(zip(names, values)))))):
                        self.assertEqual(paper.word, kind.__name__.lower())
                        self.assertIs(type(paper.parts), tuple)
                        self.assertEqual(len(paper.parts), len(names))
                        for name, part, told in zip(names, paper.parts, values):
                            self.assertEqual(repr(part), repr(fixed(told)))
                            self.assertEqual(repr(getattr(paper, name)), repr(part))
                            self.assertTrue(isinstance(told, list) or type(part) is type(told))

    def test_truth_and_bases(self):
        for kind, names in CLASSES:
            is_denial = kind in (Strayed, Parted, Wrong, Still)
            self.assertIs(issubclass(kind, Denial), is_denial)
            self.assertTrue(issubclass(kind, Paper))
            for other, _ in CLASSES:
                self.assertIs(issubclass(kind, other), kind is other)
            for value in (0, "", None, [], 5):
                self.assertIs(bool(kind(*[value] * len(names))), not is_denial)

    def test_equality(self):
        for kind, names in CLASSES:
            for value in (5, [1, (2, [3])], "x", None, Paper("note", 1)):
                values = [value] * len(names)
                self.assertIs(kind(*values) == kind(*values), True)
                self.assertIs(kind(*values) == kind(*[fixed(value)] * len(names)), True)
                self.assertIs(kind(*values) != kind(*values), False)
                for at in range(len(names)):
                    for change in (6, (), [1, (2, [4])]):
                        near = kind(*values[:at], change, *values[at + 1:])
                        self.assertIs(kind(*values) == near, False)
                        self.assertIs(kind(*values) != near, True)
                for other, more in CLASSES:
                    self.assertIs(kind(*values) == other(*[value] * len(more)), kind is other)
                word = kind.__name__.lower()
                for other in (Paper(word, *values), Denial(word, *values), (word, *values), Agreeing()):
                    self.assertIs(kind(*values) == other, False)
            # True and 1 are equal as Python compares them; the check functions tell them apart.
            self.assertIs(kind(*[1] * len(names)) == kind(*[True] * len(names)), True)

    def test_what_is_changed_later_changes_nothing(self):
        for kind, names in CLASSES:
            inner = [1]
            outer = [inner, (inner,)]
            paper = kind(*[outer] * len(names))
            inner.append(2)
            outer.append(3)
            self.assertEqual(paper.parts, (((1,), ((1,),)),) * len(names))
            self.assertEqual({repr(getattr(paper, name)) for name in names}, {"((1,), ((1,),))"})


if __name__ == "__main__":
    unittest.main()
