"""What values are, for values of any kind."""


def is_integer(value):
    """Tell whether a value is an integer."""
    # To Python a bool is an int, but here it stands for no integer.
    return isinstance(value, int) and not isinstance(value, bool)


def is_within(value, low, high):
    """Tell whether a value is an integer from low to high, both let."""
    return is_integer(value) and low <= value <= high


def is_ascending(value, bound):
    """Tell whether a value is an ascending tuple, perhaps (), of numbers below a bound."""
    if not isinstance(value, tuple):
        return False
    # Each number is above the last one, so the first one is none below 0.
    last = -1
    for member in value:
        if not is_within(member, last + 1, bound - 1):
            return False
        last = member
    return True
