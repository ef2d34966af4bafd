"""Whether values are integers, shorts, and lists of these."""

LEAST_SHORT = -2147483648
MOST_SHORT = 2147483647


def is_list(value):
    """Whether a value is a list or a tuple, which may be passed for one another."""
    return isinstance(value, (list, tuple))


def is_integer(value):
    """Whether a value is an integer; True and False are none."""
    return isinstance(value, int) and not isinstance(value, bool)


def is_within(value, least, most):
    """Whether a value is an integer from least to most, None being no bound."""
    if not is_integer(value):
        return False
    if least is not None and value < least:
        return False
    return most is None or value <= most


def are_integers(value):
    """Whether a value is a list of integers, perhaps of none."""
    return is_list(value) and all([is_integer(item) for item in value])


def is_lot(value, many):
    """Whether a value is a list of unlike integers from 0 on below many, ascending."""
    if not are_integers(value):
        return False
    least = 0
    for number in value:
        if not least <= number < many:
            return False
        least = number + 1
    return True


def is_short(value):
    """Whether a value is a short."""
    return is_within(value, LEAST_SHORT, MOST_SHORT)


def are_shorts(value, many):
    """Whether a value is a list of so many shorts, None being any number of them."""
    if not is_list(value) or (many is not None and len(value) != many):
        return False
    return all([is_short(item) for item in value])


def repeated(values):
    """The first of several strings or tuples that equals one ahead of it, None if there is none."""
    seen = set()
    for value in values:
        if value in seen:
            return value
        seen.add(value)
    return None
