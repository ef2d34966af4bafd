"""What a desk answers to lines that ask for something: a string each."""

from fairweather.calm import calm_screens
from fairweather.care import ROWS
from fairweather.exactly import judged
from fairweather.followed import followed
from fairweather.halves import LEAST_NUMBERS, MOST_NUMBERS
from fairweather.lines import MOST_LATE
from fairweather.meanings import spread, standings_of
from fairweather.nets import distance
from fairweather.pictures import letter_texts, numbers_text


def listed(numbers):
    """The text of some numbers, a dash if there are none."""
    return numbers_text(numbers) if numbers else "-"


def done_answer(world):
    """How many rounds each house has kept."""
    return listed(world.done)


def screen_answer(world, house):
    """What the screen of a house has taken."""
    return listed(world.screens[house])


def calm_answer(world, house):
    """What a house shows in the calm run for the inputs of the world."""
    return listed(calm_screens(world.program, world.net, world.inputs)[house])


def inputs_answer(world, house):
    """The inputs of the kept rounds of a house."""
    return listed(world.inputs[house])


def fallen_answer(world):
    """The houses that have fallen."""
    return listed([house for house, is_down in enumerate(world.fallen) if is_down])


def standing_answer(world, house):
    """The kept standing of a house."""
    kept = standings_of(world)[house]
    rows = [[kept.done], kept.cells, kept.new, kept.old, [kept.base], kept.shown]
    return " / ".join([listed(row) for row in rows])


def line_answer(world, one, other):
    """The letters on the line between two neighbours."""
    texts = letter_texts(world, one, other)
    return " / ".join(texts) if texts else "-"


def follows_answer(world):
    """Whether the world follows its calm run, and if not, what shows it."""
    paper = followed(world)
    return paper.word if paper else " ".join([paper.word, numbers_text(paper.parts)])


def spread_answer(world):
    """Whether kept rounds differ by no more than the ties between."""
    return "yes" if spread(world) else "no"


def distance_answer(world, one, other):
    """The distance of two houses."""
    return str(distance(world.net, one, other))


def judge_answer(_, m, s, left=None):
    """The word of what is told of numbers and a row of care."""
    return judged(m, s, left).word


# The function that answers each ask, by its word.
ANSWERS = {
    "done": done_answer,
    "screen": screen_answer,
    "calm": calm_answer,
    "inputs": inputs_answer,
    "fallen": fallen_answer,
    "standing": standing_answer,
    "line": line_answer,
    "follows": follows_answer,
    "spread": spread_answer,
    "distance": distance_answer,
    "judge": judge_answer,
}

# What stands behind the word of each ask; behind that of judge the row left out can stand, too.
KINDS = {
    "done": (),
    "screen": ("house",),
    "calm": ("house",),
    "inputs": ("house",),
    "fallen": (),
    "standing": ("house",),
    "line": ("house", "house"),
    "follows": (),
    "spread": (),
    "distance": ("house", "house"),
    "judge": ("m", "s"),
}


def read_ask(reader, net):
    """The numbers of the ask whose word stands next in a line."""
    word = reader.take()
    numbers = []
    for kind in KINDS[word]:
        if kind == "house":
            numbers.append(reader.take_number(0, net.houses - 1))
        elif kind == "m":
            numbers.append(reader.take_number(LEAST_NUMBERS, MOST_NUMBERS))
        else:
            numbers.append(reader.take_number(0, MOST_LATE))
    if word == "judge" and not reader.ended():
        numbers.append(reader.take_number(0, len(ROWS) - 1))
    reader.close()
    return numbers
