"""Tables, which tell which keys shall open which locks."""

from chambercuts.checks import is_ascending, is_within
from chambercuts.errors import InvalidLocks, InvalidNumber

MOST_KEYS = 5
MOST_LOCKS = 5


class Table:
    """So many keys, and for each lock the row of the keys that shall open it."""

    def __init__(self, many, rows):
        if not is_within(many, 1, MOST_KEYS):
            raise InvalidNumber(many)
        if not _are_rows(rows, many):
            raise InvalidLocks(rows)
        self.many = many
        # Tuples of a class of their own are let, but not kept.
        self.rows = tuple([tuple(row) for row in rows])

    def __eq__(self, other):
        return isinstance(other, Table) and self.many == other.many and self.rows == other.rows


def outs(table):
    """Return the ascending pairs (key, lock) of a key that is not in the lock's row."""
    pairs = []
    for key in range(table.many):
        for lock, row in enumerate(table.rows):
            if key not in row:
                pairs.append((key, lock))
    return tuple(pairs)


def is_key(table, value):
    """Tell whether a value is a key of the table."""
    return is_within(value, 0, table.many - 1)


def is_lock(table, value):
    """Tell whether a value is a lock of the table."""
    return is_within(value, 0, len(table.rows) - 1)


def is_bunch(table, value):
    """Tell whether a value is a bunch of the table's keys."""
    return is_ascending(value, table.many) and len(value) > 0


def are_locks(table, value):
    """Tell whether a value is an ascending tuple of locks of the table, perhaps ()."""
    return is_ascending(value, len(table.rows))


def is_out(table, key, lock):
    """Tell whether two values are a key and a lock that are a pair of the table's outs."""
    return is_key(table, key) and is_lock(table, lock) and key not in table.rows[lock]


def _are_rows(value, many):
    """Tell whether a value is the rows of a table of so many keys."""
    if not isinstance(value, tuple) or not 1 <= len(value) <= MOST_LOCKS:
        return False
    return all([is_ascending(row, many) and len(row) > 0 for row in value])
