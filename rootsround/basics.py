"""Which values are INTEGERS, and which are COUNTS."""


def is_integer(value):
    """Whether the value is an `int` that is not a `bool`."""
    return isinstance(value, int) and not isinstance(value, bool)


def is_count(value):
    """Whether the value is an INTEGER that is at least 0."""
    return is_integer(value) and value >= 0
