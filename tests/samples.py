"""Values of every kind, for the tests of wrong inputs."""

from chambercuts.desk import Desk
from chambercuts.errors import InvalidNumber, Undefined
from chambercuts.systems import System
from chambercuts.tables import Table


class Row(tuple):
    """A tuple of a class of its own."""


def deep_tuple(levels):
    value = ()
    for _ in range(levels):
        value = (value,)
    return value


def deep_list(levels):
    value = []
    for _ in range(levels):
        value = [value]
    return value


# None of these is an integer, and none is a tuple with a member that is a row or a cut.
NEITHER = (
    None, True, False, "", "0", "3", "plain", "x" * 4000, [], [1], [(0,)], [[0]],
    (), (None,), (True,), ("0",), ("01", "01"), ([0],), ([0], [1]), ((True,), (False,)),
    (None, None, None), ((None,), (None,)), ("",), Table(1, ((0,),)), (Table(1, ((0,),)),),
    [0] * 30000, ((),) * 30000, deep_tuple(59), deep_list(59), "(0,)", [True, (False, "a")],
    System(Table(1, ((0,),)), 2, ((0,),)), (System(Table(1, ((0,),)), 2, ((0,),)),),
    Desk(System(Table(1, ((0,),)), 2, ((0,),))), InvalidNumber(1), (Undefined("cuts"),),
)

# Any values at all, for what keeps whatever it is given.
EVERYTHING = NEITHER + (
    0, 1, 2, 5, -1, 10 ** 12 - 1, -(10 ** 12 - 1), (0,), (0, 1), ((0,),), ((0,), (1,)), (1, (True, [0])),
)


def unchanged(value):
    """Return a picture of a value, to see later that nothing in it changed."""
    if isinstance(value, (list, tuple)):
        return type(value).__name__, [unchanged(member) for member in value]
    if isinstance(value, Table):
        return "Table", unchanged(value.many), unchanged(value.rows)
    if isinstance(value, System):
        return "System", unchanged(value.table), unchanged(value.depths), unchanged(value.cuts)
    return type(value).__name__, value


def is_plain(value):
    """Tell whether a value is plain tuples of plain integers throughout."""
    if type(value) is tuple:
        return all(is_plain(member) for member in value)
    return type(value) is int


# None of these is a bunch of keys 0 to 2, but each of the last ones is nearly one.
NO_BUNCHES = NEITHER + (
    0, 1, -1, 10 ** 12 - 1, [0], [0, 1], (1, 0), (0, 0), (0, 1, 1), (0, 2, 1), (2, 1, 0), (-1,), (-1, 0), (3,),
    (0, 3), (0, 1, 2, 3), (False,), (0, True), (False, 1), ("0",), (None, 1), ((0,), 1), ((0, 1),), (0, [1]),
    (0, 10 ** 12 - 1), tuple(range(30000)), (0,) * 30000, "01", ("0", "1"), (0, None), (0, Table(1, ((0,),))),
)

# None of these is an ascending tuple of locks 0 to 2.
NO_LOCKS = tuple(value for value in NO_BUNCHES if not isinstance(value, tuple) or len(value) > 0)

# None of these is a number below 3.
NO_NUMBERS = NEITHER + (3, 4, 5, -1, -2, 10 ** 12 - 1, -(10 ** 12 - 1), (0,), (1,), [0], ((0,),), (0, 1), "1")


def changes(value):
    """Yield values that are like this one, but changed at one place."""
    yield from (None, [value], (value,))
    if isinstance(value, str):
        yield from (value + " ", value.upper(), value[:-1], "opens", "lets", "fits", (value,))
    elif isinstance(value, int):
        yield from (value + 1, value - 1, str(value), 10 ** 12 - 1)
        if value in (0, 1):
            yield bool(value)
    elif isinstance(value, tuple):
        yield list(value)
        yield value + value
        yield value[:-1]
        yield value[1:]
        yield value[::-1]
        yield value + (0,)
        yield value + value[-1:]
        for at, member in enumerate(value):
            for other in changes(member):
                yield value[:at] + (other,) + value[at + 1:]


def in_rows(value):
    """Return a value with tuples of a class of their own in the place of all tuples."""
    if isinstance(value, tuple):
        return Row(in_rows(member) for member in value)
    return value


def is_plain_with_words(value):
    """Tell whether a value is plain tuples of plain integers and strings throughout."""
    if type(value) is tuple:
        return all(is_plain_with_words(member) for member in value)
    return type(value) in (int, str)
