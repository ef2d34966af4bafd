"""Nets, programs and storms for tests; whoever passes a seeded Random gets the same ones again."""

import itertools

from fairweather.errors import BadNet
from fairweather.nets import Net
from fairweather.programs import Program
from tests.making import ENDS, NAMES, statement

ALONE, PAIR, ROW = Net(1, []), Net(2, [(0, 1)]), Net(3, [(0, 1), (1, 2)])
STAR = Net(6, [(0, 1), (0, 2), (0, 3), (0, 4), (0, 5)])
RING = Net(4, [(0, 1), (1, 2), (2, 3), (0, 3)])
NETS = [ALONE, PAIR, ROW, RING, Net(5, [(0, 4), (1, 4), (2, 4), (3, 4), (0, 1)]), STAR]
LEFT = [None, *range(8)]
TALK = Program.read("cells round say input to 0 show heard 0 end")
ADDS = Program.read("cells sum 0 at 0 round each at do sum := ( sum + heard at ) end sum := ( sum + input ) each at do "
                    "say ( sum + at ) to at end show sum show done end")
SAYS = Program([], [("say", ("+", ("done",), ("short", 1)), ("short", 0)), ("show", ("heard", ("short", 0)))])
COUNTS = Program([("n", 3)], [("set", "n", ("+", ("name", "n"), ("input",))), ("show", ("name", "n"))])


def look(world):
    """All that can be seen of a world."""
    houses = range(world.net.houses)
    return (world.screens, world.inputs, world.done, world.fallen, [world.disk_of(house) for house in houses],
            [world.waiting_of(house) for house in houses],
            {(one, other): world.line_of(one, other) for one in houses for other in houses
             if (one, other) in world.net.ties or (other, one) in world.net.ties})


def some_event(source, net, falls=0.002, cuts=0.12):
    """An event of a net, most often one that brings it on."""
    house = source.randrange(net.houses)
    chance = source.random()
    if chance < falls:
        return ("fall", house)
    if chance < cuts:
        return ("cut", house, tuple(sorted(source.sample(range(40), source.choice((0, 1, 5, 20, 40))))))
    if chance < 0.25:
        return ("steps", house, source.choice((0, 1, 7, 50, 200, 400)), source.choice(ENDS))
    if chance < 0.5 or not net.ties:
        return ("beat", house, source.choice(ENDS))
    one, other = source.sample(source.choice(net.ties), 2)
    if chance < 0.53:
        return ("drop", one, other, source.choice((0, 0, 1, 2, 99)))
    return ("hand", one, other, source.choice((0, 0, 0, 0, 1, 1, 2, 3, 5, 99)))


def some_program(source):
    """A program that tells much of what it hears, or any other one."""
    if source.random() < 0.6:
        return source.choice((ADDS, SAYS, TALK))
    return Program([(name, 1) for name in NAMES], [statement(source, 3) for _ in range(2)] + [("show", ("done",))])


def all_nets(houses):
    """All nets of so many houses."""
    pairs = list(itertools.combinations(range(houses), 2))
    for many in range(houses - 1, len(pairs) + 1):
        for ties in itertools.combinations(pairs, many):
            try:
                yield Net(houses, ties)
            except BadNet:
                continue


def some_net(source, houses=None):
    """A net: a tree, and some ties more."""
    houses = houses or source.randrange(1, 7)
    order = source.sample(range(houses), houses)
    ties = {tuple(sorted((order[at], source.choice(order[:at])))) for at in range(1, houses)}
    more = source.choice((0, 0, 0.3, 1))
    ties |= {tie for tie in itertools.combinations(range(houses), 2) if source.random() < more}
    return Net(houses, sorted(ties))


def told_distance(net, one, other):
    """The distance of two houses, as the least length of a way."""
    reached, ties = {one}, 0
    while other not in reached:
        reached |= {house for tie in net.ties for house in tie if set(tie) & reached}
        ties += 1
    return ties


def told_standing(world, house):
    """The parts of the standing that a disk tells, read from its addresses alone."""
    disk = dict(world.disk_of(house))
    begin = 100 if disk.get(0, 0) else 20
    read = [disk.get(begin + at, 0) for at in range(80)]
    many = sum(house in tie for tie in world.net.ties)
    return (read[0], tuple(read[40:40 + len(world.program.cells)]), tuple(read[20:20 + many]), tuple(read[30:30 + many]),
            read[2], tuple(read[4:4 + min(max(read[3], 0), 8)]))


def parts(standing):
    """The parts of a standing, as a tuple."""
    return (standing.done, standing.cells, standing.new, standing.old, standing.base, standing.shown)
