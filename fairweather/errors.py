"""The errors of the package, each with its fields in attributes."""


class WeatherError(ValueError):
    """The base of all errors of the package."""


class BadNumber(WeatherError):
    """A number, or a list of numbers, is not what this parameter wants."""

    def __init__(self, part):
        self.part = part


class BadNet(WeatherError):
    """What should be a net is none, in this part."""

    def __init__(self, part):
        self.part = part


class BadProgram(WeatherError):
    """What should be a program is none, in this part."""

    def __init__(self, part):
        self.part = part


class BadCode(WeatherError):
    """What should be a code is none, in this part."""

    def __init__(self, part):
        self.part = part


class BadStanding(WeatherError):
    """What should be a standing is none, in this part."""

    def __init__(self, part):
        self.part = part


class BadWorld(WeatherError):
    """What should be a world is none, in this part."""

    def __init__(self, part):
        self.part = part


class BadEvent(WeatherError):
    """What should be an event, or a weather, is none, in this part."""

    def __init__(self, part):
        self.part = part


class BadPaper(WeatherError):
    """What should be a paper is none, in this part."""

    def __init__(self, part):
        self.part = part


class Misfit(WeatherError):
    """This part does not fit together with the others."""

    def __init__(self, part):
        self.part = part


class Twice(WeatherError):
    """This value stands there already."""

    def __init__(self, value):
        self.value = value


class Unknown(WeatherError):
    """This name is no cell."""

    def __init__(self, name):
        self.name = name


class TooMany(WeatherError):
    """There are more of these than there may be at most."""

    def __init__(self, what, most):
        self.what = what
        self.most = most


class BadText(WeatherError):
    """The item with this index cannot stand in a text, or is missing there."""

    def __init__(self, item):
        self.item = item
