"""Questions about single values, which may be of any kind."""

GREATEST_AMOUNT = 6


def is_integer(value):
    """Return True if the value is an integer; True and False are none."""
    return isinstance(value, int) and not isinstance(value, bool)


def is_amount(value):
    """Return True if the value can be a demand or a limit."""
    return is_integer(value) and 0 <= value <= GREATEST_AMOUNT


def is_ascending(value, many):
    """Return True if the value is an ascending tuple of different integers from 0 that are less than many."""
    if not isinstance(value, tuple):
        return False
    last = -1
    for item in value:
        if not is_integer(item) or not last < item < many:
            return False
        last = item
    return True
