"""What several tests need."""

from fairweather.errors import WeatherError


class Agreeing:
    """An object that equals everything, and that is no key."""

    def __eq__(self, other):
        return True


# Values of many kinds, none of which is an integer, a list, a tuple or an object of the package.
STRANGE = [None, True, False, 1.0, "", "1", "x", b"1", {}, {1: 2}, set(), frozenset([1]), range(3), object(), int, len,
           iter([1]), 2j, Exception("x"), Agreeing()]


class Raising:
    """For test cases: checks the class and the fields of an error."""

    def raises(self, kind, fields, function, *values, **named):
        with self.assertRaises(WeatherError) as caught:
            function(*values, **named)
        self.assertIs(type(caught.exception), kind, caught.exception)
        told = vars(caught.exception)
        self.assertEqual(told, fields)
        for name, value in fields.items():
            self.assertIs(type(told[name]), type(value))

    def raises_in_order(self, function, good, wrong):
        """Each wrong value, an (index, value, kind, fields), is told for good values but those of it and of all behind it."""
        for at, (_, _, kind, fields) in enumerate(wrong):
            for others in ([wrong[at]], wrong[at:]):
                values = list(good)
                for index, value, _, _ in others:
                    values[index] = value
                self.raises(kind, fields, function, *values)


def nested(depth, inner=()):
    """A value of lists and tuples by turns, nested so deep."""
    value = inner
    for turn in range(depth):
        value = [value] if turn % 2 else (value,)
    return value


def replaced(tree, path, value):
    """A tree of tuples, with a value at a path of indexes."""
    if not path:
        return value
    at = path[0]
    return tree[:at] + (replaced(tree[at], path[1:], value),) + tree[at + 1:]


def listed(value):
    """A value with lists in the place of tuples, all the way in."""
    return [listed(item) for item in value] if isinstance(value, (list, tuple)) else value
