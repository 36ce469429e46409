"""What kinds of values there are: numbers, and lists of them."""


def is_integer(value):
    """Whether the value is an INTEGER: an int, but True and False are none."""
    return isinstance(value, int) and not isinstance(value, bool)


def is_count(value):
    """Whether the value is a COUNT: an INTEGER from 0 on."""
    return is_integer(value) and value >= 0


def is_below(value, bound):
    """Whether the value is a COUNT below the bound."""
    return is_count(value) and value < bound


def is_list(value):
    """Whether the value may be passed as a list: a tuple may, too."""
    return isinstance(value, (list, tuple))


def are_below(bound, value):
    """Whether the value is a list of COUNTS below the bound, perhaps of none."""
    return is_list(value) and all([is_below(item, bound) for item in value])


def is_pair(value):
    """Whether the value is a tuple of two."""
    return isinstance(value, tuple) and len(value) == 2


def are_told(value, fits):
    """Whether the value is a list of tuples each of which fits, rising by what they begin with."""
    return is_list(value) and all([fits(item) for item in value]) and is_rising([item[0] for item in value])


def is_rising(values):
    """Whether each of the values, which can be compared, is above the one ahead of it."""
    return all([values[at] < values[at + 1] for at in range(len(values) - 1)])
