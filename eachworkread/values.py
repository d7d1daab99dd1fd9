"""Questions about single values, which may be of any kind, and the sets of works that there are."""

GREATEST_AMOUNT = 6


def is_integer(value):
    """Return True if the value is an integer; True and False are none."""
    return isinstance(value, int) and not isinstance(value, bool)


def is_amount(value):
    """Return True if the value can be a demand or a limit."""
    return is_integer(value) and 0 <= value <= GREATEST_AMOUNT


def is_ascending(value, many):
    """Return True if the value is an ascending tuple of different integers from 0 that are less than many."""
    if not isinstance(value, tuple):
        return False
    last = -1
    for item in value:
        if not is_integer(item) or not last < item < many:
            return False
        last = item
    return True


def is_set_of_works(value, many):
    """Return True if the value is a set of works of a book with so many works."""
    return is_ascending(value, many) and len(value) > 0


def sets_of_works(many):
    """Return a list of all sets of works of a book with so many works."""
    found = [()]
    for work in range(many):
        found = found + [works + (work,) for works in found]
    return found[1:]
