"""Which values are INTEGERS, and which are COUNTS; values copied."""

from rootsround.errors import InvalidMany


def is_integer(value):
    """Whether the value is an `int` that is not a `bool`."""
    return isinstance(value, int) and not isinstance(value, bool)


def is_count(value):
    """Whether the value is an INTEGER that is at least 0."""
    return is_integer(value) and value >= 0


def copied(value):
    """The value, with lists and tuples new, those in it too."""
    if isinstance(value, list):
        return [copied(part) for part in value]
    return tuple([copied(part) for part in value]) if isinstance(value, tuple) else value


def wanted_many(value, least, most):
    """The value, which is a COUNT within both bounds."""
    if not is_integer(value) or value < least or value > most:
        raise InvalidMany(value)
    return value
