"""Droppings: how many readers can drop out at once so that the others can still take over."""

from eachworkread.rows import count, is_short, present_readers
from eachworkread.values import is_ascending, is_set_of_works, sets_of_works


def fewest_droppers(book, rows, absent, works):
    """Return the fewest present readers without whom the set is short, as an ascending tuple; None if it never is."""
    demands = book.demands()
    wanted = sum([demands[work] for work in works])
    counts = [(count(book, rows, reader, works), reader) for reader in present_readers(book, absent)]
    left = sum([amount for amount, _ in counts])
    droppers = []
    for amount, reader in sorted(counts, reverse=True):
        if left < wanted:
            break
        droppers.append(reader)
        left -= amount
    if left < wanted:
        return tuple(sorted(droppers))
    return None


def least_reason(book, rows, absent):
    """Return a reason with the fewest droppers; None if there is none against any number."""
    least = None
    for works in sets_of_works(len(book)):
        droppers = fewest_droppers(book, rows, absent, works)
        if droppers is not None and (least is None or len(droppers) < len(least[1])):
            least = (works, droppers)
    return least


def borne(book, rows, absent):
    """Return the greatest number, at most that of the present readers, that is borne; -1 if 0 is not."""
    least = least_reason(book, rows, absent)
    if least is None:
        return len(present_readers(book, absent))
    return len(least[1]) - 1


def reason(book, rows, absent, number):
    """Return None if the number is borne, otherwise a reason against it."""
    least = least_reason(book, rows, absent)
    if least is None or len(least[1]) > number:
        return None
    return least


def is_reason(book, rows, absent, number, value):
    """Return True if the value, which may be any value, is a reason against the number."""
    if not isinstance(value, tuple) or len(value) != 2:
        return False
    works, droppers = value
    if not is_set_of_works(works, len(book)) or not is_ascending(droppers, len(book.readers())):
        return False
    if len(droppers) > number or any([reader in absent for reader in droppers]):
        return False
    return is_short(book, rows, tuple(sorted(absent + droppers)), works)
