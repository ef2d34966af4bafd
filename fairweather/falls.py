"""Falls: what a house that falls lets the others keep, and a weather that brings all of them there."""

from fairweather.checks import is_within
from fairweather.errors import BadNumber
from fairweather.nets import check_house, check_net, distance
from fairweather.sweeps import beats, newest_letters
from fairweather.weathers import Weather

MOST_WAVE = 30


def last_rounds(net, house, rounds):
    """The last rounds of all houses, if this one falls with so many kept."""
    check_net(net)
    check_house(net, house, "house")
    if not is_within(rounds, 0, MOST_WAVE):
        raise BadNumber("rounds")
    return tuple([rounds + distance(net, house, other) for other in range(net.houses)])


def saying(net, houses, done):
    """Beats in which some houses, who have done so many rounds, say their newest letter and do no round."""
    # In round 0 nothing is wanted of a neighbour; and who has no neighbour does a round in each beat.
    return beats(houses, 0) if done > 0 and net.houses > 1 else []


def wave(net, house, rounds):
    """A weather behind which the house has fallen with so many rounds kept, and all have kept their last rounds."""
    last = last_rounds(net, house, rounds)
    everybody = list(range(net.houses))
    others = [other for other in everybody if other != house]
    events = []
    for done in range(rounds):
        events.extend([*saying(net, everybody, done), *newest_letters(net), *beats(everybody, 0)])
    # Its word of the last round is the newest letter on each of its lines when it falls.
    events.extend([*saying(net, [house], rounds), ("fall", house)])
    for done in range(rounds, max(last)):
        able = [other for other in others if last[other] > done]
        events.extend([*saying(net, others, done), *newest_letters(net), *beats(able, 0)])
    return Weather(events)
