"""Programs for one net, by which all houses do something in one and the same round."""

from fairweather.errors import Twice
from fairweather.nets import check_house, check_net, distance, farthest, places_of
from fairweather.programs import Program

POWERS = (1, 3, 9, 27, 81, 243, 729)


def together(net, house):
    """All houses show 1 from the same round on, the first one in which each can know that the house gave an order."""
    check_net(net)
    check_house(net, house, "house")
    far = farthest(net, house)
    # The age of the order, 1 in its own round, 0 ahead of it, is the same for all who know of it.
    return Program.read(" ".join([
        "cells age 0 at 0 round",
        f"if age then if ( age < {far + 1} ) then age := ( age + 1 ) end else",
        "each at do if ( heard at and not age ) then age := ( heard at + 1 ) end end",
        f"if ( ( me = {house} ) and input ) then age := 1 end end",
        "each at do say age to at end",
        f"show ( {far} < age ) end",
    ]))


def place_towards(net, house, goal):
    """The first place of a house whose neighbour is nearer to a goal, 0 at the goal itself."""
    far = distance(net, house, goal)
    nearer = [place for place, other in enumerate(places_of(net, house)) if distance(net, other, goal) < far]
    return nearer[0] if nearer else 0


def seat_text(net, house, one, other, late):
    """The statement in which a house learns where it hears of both pieces, and which digit of what it hears is due."""
    places = f"one := {place_towards(net, house, one)} other := {place_towards(net, house, other)}"
    digit_one = POWERS[late - distance(net, house, one)]
    digit_other = POWERS[late - distance(net, house, other)]
    return f"if ( me = {house} ) then {places} dueone := {digit_one} dueother := {digit_other} end"


def move_text(name, digit, spot, taken):
    """The statements in which a piece moves, if the other one is not there."""
    return " ".join([
        f"{name} := ( ( {name} div {digit} ) rem 3 )",
        f"at := ( ( {spot} + ( {name} - ( 3 * ( {name} = 2 ) ) ) ) rem 8 )",
        f"if not ( at = {taken} ) then {spot} := at end",
    ])


def lockstep(net, one, other):
    """A game of two pieces on a ring, of which all houses show one and the same board in each round."""
    check_net(net)
    check_house(net, one, "one")
    check_house(net, other, "other")
    if one == other:
        raise Twice(other)
    late = max(farthest(net, one), farthest(net, other))
    base = POWERS[late + 1]
    # A word has, for each piece, the newest moves that are known, as digits to the base 3, the newest one last:
    # 0 to stay, 1 to go on, 2 to go back. So a move stands where it is told by how late it is already.
    return Program.read(" ".join([
        "cells one 0 other 0 dueone 0 dueother 0 log 0 a 0 b 4 at 0 round",
        *[seat_text(net, house, one, other, late) for house in range(net.houses)],
        "at := ( ( 0 < input ) + ( 2 * ( input < 0 ) ) )",
        f"if ( me = {one} ) then one := ( ( ( ( log div {base} ) * 3 ) + at ) rem {base} )",
        f"else one := ( heard one div {base} ) end",
        f"if ( me = {other} ) then other := ( ( ( ( log rem {base} ) * 3 ) + at ) rem {base} )",
        f"else other := ( heard other rem {base} ) end",
        f"log := ( ( one * {base} ) + other ) each at do say log to at end",
        move_text("one", "dueone", "a", "b"),
        move_text("other", "dueother", "b", "a"),
        "show a show b end",
    ]))
