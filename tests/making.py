"""Makes trees, programs and their texts for tests; whoever passes a seeded Random gets the same ones again."""

from fairweather.shorts import SIGNS

NAMES = ("a", "far", "sum", "longname")
ENDS = (-2147483648, -2147483647, -65536, -3, -2, -1, 0, 1, 2, 3, 4, 5, 6, 65536, 2147483646, 2147483647)
LEAVES = ("short", "name", "me", "many", "houses", "input", "done")


def expression(random, levels, names=NAMES):
    """An expression of at most so many levels."""
    if levels <= 1 or random.random() < 0.3:
        word = random.choice(LEAVES if names else LEAVES[:1] + LEAVES[2:])
        if word == "short":
            return (word, random.choice(ENDS))
        return (word, random.choice(names)) if word == "name" else (word,)
    word = random.choice(("heard", "not") + SIGNS)
    many = 1 if word in ("heard", "not") else 2
    return (word,) + tuple(expression(random, levels - 1, names) for _ in range(many))


def statement(random, levels, names=NAMES):
    """A statement of at most so many levels, two at least."""
    words = ["say", "show"] + (["set"] if names else [])
    if levels > 2:
        words += ["if", "if", "times"] + (["each"] if names else [])
    word = random.choice(words)
    if word == "set":
        return (word, random.choice(names), expression(random, levels - 1, names))
    if word == "if":
        return (word, expression(random, levels - 1, names), statements(random, levels - 1, names),
                statements(random, levels - 1, names))
    if word == "each":
        return (word, random.choice(names), statements(random, levels - 1, names))
    if word == "times":
        return (word, random.randrange(10), statements(random, levels - 1, names))
    many = 2 if word == "say" else 1
    return (word,) + tuple(expression(random, levels - 1, names) for _ in range(many))


def statements(random, levels, names=NAMES):
    """A few statements of at most so many levels, perhaps none."""
    return tuple(statement(random, levels, names) for _ in range(random.choice((0, 1, 1, 2, 3))))


def deep_expression(levels):
    """An expression of just so many levels."""
    value = ("me",)
    for _ in range(levels - 1):
        value = ("not", value)
    return value


def long_body(parts):
    """A list of statements with just so many parts."""
    body = [("show", ("me",))] * (parts // 2)
    return body + [("times", 0, ())] * (parts % 2)


def heavy_body(weight):
    """A list of statements with just so great a weight, of few parts."""
    body = [("times", 9, [("times", 9, [("show", ("me",))])])]
    left = weight - 262
    body += [("times", 9, [])] * (left // 10)
    return body + [("times", 0, [])] * (left % 10)
