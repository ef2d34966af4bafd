"""Worlds: the computers of a net, the lines between them, and the weather that comes."""

from fairweather.care import check_left
from fairweather.computers import Computer
from fairweather.errors import BadEvent, Misfit
from fairweather.halves import TURNING, check_numbers, done_on, first_disk
from fairweather.houses import house_code
from fairweather.lines import Line, check_late
from fairweather.nets import check_house, check_net, place_of, places_of
from fairweather.programs import check_program
from fairweather.weathers import MOST_STEPS, Weather, fits, is_event, is_on_line


class Site:
    """A house of a world: its computer, and what came of it."""

    def __init__(self, computer):
        self.computer = computer
        self.screen = []
        self.typed = 0
        # The inputs of the rounds whose turning cells wait, and of those that are kept.
        self.promised = []
        self.kept = []
        self.is_down = False

    def meet(self, effect):
        """Takes up an effect of the computer that concerns the house alone."""
        word = effect[0]
        if word == "typed":
            self.typed = effect[1]
        elif word == "wrote" and effect[1] == TURNING:
            self.promised.append(self.typed)
        elif word == "settled":
            self.kept.extend(self.promised)
            self.promised = []
        elif word == "shown" and effect[1] == len(self.screen):
            self.screen.append(effect[2])

    def lose_power(self, kept):
        """Cuts the power; of what waits that with the numbers kept is settled, as far as it goes."""
        waiting = self.computer.waiting
        turning = [index for index, pair in enumerate(waiting) if pair[0] == TURNING]
        self.kept.extend([given for index, given in zip(turning, self.promised) if index in kept])
        self.promised = []
        self.computer.cut([index for index in kept if index < len(waiting)])

    def state(self):
        """All that changes, as it is now."""
        rows = (tuple(self.screen), tuple(self.promised), tuple(self.kept))
        return (self.computer.state(), rows, self.typed, self.is_down)

    def restore(self, state):
        """Lets all be as it was when the state was told."""
        computer, rows, typed, is_down = state
        screen, promised, kept = rows
        self.computer.restore(computer)
        self.screen = list(screen)
        self.typed = typed
        self.promised = list(promised)
        self.kept = list(kept)
        self.is_down = is_down


def new_site(program, net, house, m, left):
    """A house in which nothing was done yet."""
    return Site(Computer(house_code(program, net, house, m, left), first_disk(program, net, house)))


def check_weather(net, weather):
    """BadEvent for what is no weather, Misfit for one of which some event is none of the net."""
    if not isinstance(weather, Weather):
        raise BadEvent("weather")
    if not all([fits(net, event) for event in weather.events]):
        raise Misfit("weather")


def with_part(parts, index, part):
    """A tuple with another part at an index."""
    return (*parts[:index], part, *parts[index + 1:])


class World:
    """A net of computers that do a program, in the weather that comes: it changes with each event."""

    def __init__(self, program, net, m, s, left=None):
        check_program(program)
        check_net(net)
        check_numbers(m)
        check_late(s)
        check_left(left)
        self.program = program
        self.net = net
        self.m = m
        self.s = s
        self.left = left
        houses = list(range(net.houses))
        self.neighbours = [places_of(net, house) for house in houses]
        self.sites = [new_site(program, net, house, m, left) for house in houses]
        self.lines = {(one, other): Line(s) for one in houses for other in self.neighbours[one]}
        self.screens = ((),) * net.houses
        self.inputs = ((),) * net.houses
        self.done = (0,) * net.houses
        self.fallen = (False,) * net.houses

    def do(self, event):
        """Lets an event come, and returns how many steps were done by it."""
        if not is_event(self.net, event):
            raise BadEvent("event")
        return self.let_come(event)

    def run(self, weather):
        """Lets all events of a weather come, in order."""
        check_weather(self.net, weather)
        for event in weather.events:
            self.let_come(event)

    def line_of(self, one, other):
        """What lies on the line from one house to a neighbour."""
        check_house(self.net, one, "one")
        check_house(self.net, other, "other")
        if other not in self.neighbours[one]:
            raise Misfit("tie")
        return self.lines[(one, other)].letters

    def disk_of(self, house):
        """What is settled on the disk of a house."""
        check_house(self.net, house, "house")
        return self.sites[house].computer.disk

    def waiting_of(self, house):
        """What waits for the disk of a house."""
        check_house(self.net, house, "house")
        return self.sites[house].computer.waiting

    def let_come(self, event):
        """Lets an event of the net come, and returns how many steps were done by it."""
        if is_on_line(event):
            self.move_letter(event)
            return 0
        word, house = event[0], event[1]
        site = self.sites[house]
        if site.is_down:
            return 0
        steps = 0
        if word == "beat":
            steps = self.go_on(house, MOST_STEPS, event[2], True)
        elif word == "steps":
            steps = self.go_on(house, event[2], event[3], False)
        elif word == "cut":
            site.lose_power(event[2])
        else:
            site.is_down = True
        self.look_at(house)
        return steps

    def move_letter(self, event):
        """Hands a letter out, or drops it."""
        word, one, other, back = event
        line = self.lines[(one, other)]
        if word == "drop":
            line.drop(back)
            return
        letter = line.hand(back)
        if letter is not None and not self.fallen[other]:
            self.sites[other].computer.hand(place_of(self.net, other, one), letter)

    def go_on(self, house, most, given, is_beat):
        """Steps of a computer, so many at most, up to one that waits if it is a beat; returns how many they were."""
        site = self.sites[house]
        steps = 0
        while steps < most:
            many, effect = site.computer.go(given, most - steps)
            steps += many
            if effect is None:
                return steps
            if effect[0] == "sent":
                self.lines[(house, self.neighbours[house][effect[1]])].send(effect[2])
            site.meet(effect)
            if is_beat and effect[0] == "waits":
                return steps
        return steps

    def look_at(self, house):
        """Tells anew what has come of a house."""
        site = self.sites[house]
        self.screens = with_part(self.screens, house, tuple(site.screen))
        self.inputs = with_part(self.inputs, house, tuple(site.kept))
        self.done = with_part(self.done, house, done_on(site.computer.settled))
        self.fallen = with_part(self.fallen, house, site.is_down)

    def state(self):
        """All that changes, as it is now."""
        sites = tuple([site.state() for site in self.sites])
        lying = tuple([self.lines[tie].letters for tie in self.lines])
        return (sites, lying, self.screens, self.inputs, self.done, self.fallen)

    def restore(self, state):
        """Lets all be as it was when the state was told, by this world or by another one of the same parts."""
        sites, lying, screens, inputs, done, fallen = state
        for site, told in zip(self.sites, sites):
            site.restore(told)
        for tie, letters in zip(list(self.lines), lying):
            self.lines[tie].restore(letters)
        self.screens = screens
        self.inputs = inputs
        self.done = done
        self.fallen = fallen
