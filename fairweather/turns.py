"""What a house does in one round: statements and expressions, made to functions of a turn."""

from fairweather.shorts import ACTS, short_of
from fairweather.standings import MOST_SHOWN, Standing


class Turn:
    """A house in a round: what it holds, hears and is given, and what it said and showed so far."""

    def __init__(self, program, net, house, standing, heard, given):
        self.cells = {cell[0]: number for cell, number in zip(program.cells, standing.cells)}
        self.me = house
        self.houses = net.houses
        self.done = short_of(standing.done)
        self.heard = heard
        self.given = given
        self.said = [0] * len(heard)
        self.shown = []


def behind_round(program, deeds, net, house, standing, heard, given):
    """The standing behind a round in which the deeds of a program's body are done."""
    turn = Turn(program, net, house, standing, heard, given)
    for deed in deeds:
        deed(turn)
    base = standing.base + len(standing.shown)
    cells = [turn.cells[cell[0]] for cell in program.cells]
    return Standing(standing.done + 1, cells, turn.said, standing.new, base, turn.shown)


def my_number(turn):
    """The value of me."""
    return turn.me


def how_many(turn):
    """The value of many."""
    return len(turn.heard)


def how_many_houses(turn):
    """The value of houses."""
    return turn.houses


def what_is_given(turn):
    """The value of input."""
    return turn.given


def what_is_done(turn):
    """The value of done."""
    return turn.done


# Expressions of one word.
TELLING = {
    "me": my_number,
    "many": how_many,
    "houses": how_many_houses,
    "input": what_is_given,
    "done": what_is_done,
}


def teller_of(expression):
    """The function that tells the value of an expression in a turn."""
    word = expression[0]
    if word in TELLING:
        tell = TELLING[word]
        return tell
    if word == "short":
        return short_teller(expression[1])
    if word == "name":
        return name_teller(expression[1])
    if word == "heard":
        return heard_teller(teller_of(expression[1]))
    if word == "not":
        return not_teller(teller_of(expression[1]))
    return sign_teller(word, teller_of(expression[1]), teller_of(expression[2]))


def short_teller(number):
    """Tells a short."""
    def tell(turn):
        return number
    return tell


def name_teller(name):
    """Tells what a cell holds."""
    def tell(turn):
        return turn.cells[name]
    return tell


def heard_teller(tell_place):
    """Tells the word heard at a place."""
    def tell(turn):
        place = tell_place(turn)
        return turn.heard[place] if 0 <= place < len(turn.heard) else 0
    return tell


def not_teller(tell_value):
    """Tells whether a value is 0."""
    def tell(turn):
        return 1 if tell_value(turn) == 0 else 0
    return tell


def sign_teller(sign, tell_one, tell_other):
    """Tells what a sign makes of two values."""
    act = ACTS[sign]

    def tell(turn):
        return act(tell_one(turn), tell_other(turn))
    return tell


def deeds_of(statements):
    """The functions, in order, that do statements in a turn."""
    return [deed_of(statement) for statement in statements]


def deed_of(statement):
    """The function that does a statement in a turn."""
    word = statement[0]
    if word == "set":
        return set_deed(statement[1], teller_of(statement[2]))
    if word == "if":
        return if_deed(teller_of(statement[1]), deeds_of(statement[2]), deeds_of(statement[3]))
    if word == "each":
        return each_deed(statement[1], deeds_of(statement[2]))
    if word == "times":
        return times_deed(statement[1], deeds_of(statement[2]))
    if word == "say":
        return say_deed(teller_of(statement[1]), teller_of(statement[2]))
    return show_deed(teller_of(statement[1]))


def set_deed(name, tell_value):
    """Lets a cell hold a value."""
    def act(turn):
        turn.cells[name] = tell_value(turn)
    return act


def if_deed(tell_value, yes, no):
    """Does one of two lists."""
    def act(turn):
        deeds = yes if tell_value(turn) != 0 else no
        for deed in deeds:
            deed(turn)
    return act


def each_deed(name, deeds):
    """Does a list for each place, which a cell holds when the list begins."""
    def act(turn):
        for place in range(len(turn.heard)):
            turn.cells[name] = place
            for deed in deeds:
                deed(turn)
    return act


def times_deed(count, deeds):
    """Does a list so often."""
    def act(turn):
        for _ in range(count):
            for deed in deeds:
                deed(turn)
    return act


def say_deed(tell_value, tell_place):
    """Says a word to a place, if there is such a one."""
    def act(turn):
        place = tell_place(turn)
        if 0 <= place < len(turn.said):
            turn.said[place] = tell_value(turn)
    return act


def show_deed(tell_value):
    """Shows a value, if not too many were shown."""
    def act(turn):
        if len(turn.shown) < MOST_SHOWN:
            turn.shown.append(tell_value(turn))
    return act
