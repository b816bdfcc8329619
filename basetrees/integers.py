"""What an integer is, and which of them are weights."""

from basetrees.limits import MOST_WEIGHT


def is_integer(value):
    """Whether any value is an integer; True and False are none."""
    return isinstance(value, int) and not isinstance(value, bool)


def is_weight(value):
    """Whether any value may be the weight of a line."""
    return is_integer(value) and -MOST_WEIGHT <= value <= MOST_WEIGHT
