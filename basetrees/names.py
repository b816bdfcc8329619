"""What a name is, and whether it is known."""

from basetrees.errors import UnknownName

LONGEST_NAME = 8


def is_name(value):
    """Whether any value is a string of one to eight letters from a to z."""
    if not isinstance(value, str) or len(value) > LONGEST_NAME:
        return False
    return value.isascii() and value.isalpha() and value.islower()


def is_one_of(value, names):
    """Whether any value is one of these names."""
    # A value of another class may not be fit to be compared or looked up.
    return isinstance(value, str) and value in names


def check_known(value, names):
    """Raise UnknownName if the value is not one of these names."""
    if not is_one_of(value, names):
        raise UnknownName(value)
