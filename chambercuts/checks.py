"""What values are, for values of any kind."""


def is_integer(value):
    """Tell whether a value is an integer."""
    # To Python a bool is an int, but here it stands for no integer.
    return isinstance(value, int) and not isinstance(value, bool)


def is_within(value, low, high):
    """Tell whether a value is an integer from low to high, both let."""
    return is_integer(value) and low <= value <= high


def is_ascending(value, bound):
    """Tell whether a value is an ascending tuple, perhaps (), of numbers below a bound."""
    if not isinstance(value, tuple):
        return False
    # Each number is above the last one, so the first one is none below 0.
    last = -1
    for member in value:
        if not is_within(member, last + 1, bound - 1):
            return False
        last = member
    return True


def has_word(value):
    """Tell whether a value is a tuple that begins with a string."""
    return isinstance(value, tuple) and len(value) > 0 and isinstance(value[0], str)


def is_same(one, value):
    """Tell whether a value is the same as this one, which is integers and strings, in tuples perhaps."""
    if isinstance(one, tuple):
        if not isinstance(value, tuple) or len(value) != len(one):
            return False
        return all([is_same(member, other) for member, other in zip(one, value)])
    if isinstance(one, str):
        return isinstance(value, str) and value == one
    # To Python a bool may be equal to a number.
    return is_integer(value) and value == one
