"""Whether a code is trim, as the document tells it, and whether two codes do alike, in runs of both."""

from fairweather.shorts import SIGNS
from tests.machine import Machine


def named(rows):
    return {row[1] for row in rows if row[0] in ("jump", "unless")}


def reached(rows):
    found, rest = set(), [0]
    while rest:
        row = rest.pop()
        if row not in found and row < len(rows):
            found.add(row)
            rest += [rows[row][1]] if rows[row][0] in ("jump", "unless") else []
            rest += [row + 1] if rows[row][0] != "jump" else []
    return found


def faults(rows):
    """The points in which a list of instructions is not trim."""
    names = named(rows)
    words = [row[0] for row in rows] + ["", ""]
    found = ["reached"] if len(reached(rows)) < len(rows) else []
    for at, row in enumerate(rows):
        if row == ("jump", at + 1):
            found.append("next")
        if row[0] in ("jump", "unless") and words[row[1]] == "jump" and rows[row[1]] != ("jump", row[1]):
            found.append("jump to jump")
        if row[0] == "push" and at + 1 not in names:
            if words[at + 1] in ("not", "drop", "unless"):
                found.append(words[at + 1])
            if words[at + 1] == "push" and at + 2 not in names and words[at + 2] in SIGNS:
                found.append("sign")
    return found


def next_effect(one, given, most):
    """The next effect of a machine but None, and in which step it comes; None if not in so many steps."""
    for step in range(1, most + 1):
        effect = one.step(given)
        if effect is not None or len(one.stack) > 990:
            return effect, step
    return None, most


def differ(rows, others, source, effects=25, most=400):
    """What tells two codes apart in a run that both begin alike, the other one coming to each effect as soon; or None."""
    memory = {at: source.choice((0, 1, 2, -1)) for at in range(3)}
    one, other = [Machine(each, {0: 1, 2: -1}, memory) for each in (rows, others)]
    given, late = 0, 0
    for _ in range(effects):
        (effect, steps), (same, fewer) = next_effect(one, given, most), next_effect(other, given, most)
        if len(one.stack) > 990:
            return None
        late += fewer - steps
        if effect != same or late > 0 or (effect and one.state() != other.state()):
            return effect, same, late
        if effect is None:
            return None
        if effect == ("waits",):
            given = source.choice((0, 1, 2))
            if source.random() < 0.5:
                for each in (one, other):
                    each.hand(given % 2, (given, 1, 2))
    return None
