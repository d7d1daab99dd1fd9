"""Rows: the works that each reader reads, and what sets of works lack."""

from eachworkread.values import is_ascending


def is_row(value, reader, many):
    """Return True if the value tells works that this reader can read in a book with so many works."""
    limit, may = reader
    if not is_ascending(value, many) or len(value) > limit:
        return False
    return all([work in may for work in value])


def is_rows(book, value):
    """Return True if the value, which may be any value, are rows of the book."""
    readers = book.readers()
    if not isinstance(value, list) or len(value) != len(readers):
        return False
    return all([is_row(row, reader, len(book)) for row, reader in zip(value, readers)])


def present_readers(book, absent):
    """Return the list of the readers that are not absent."""
    return [reader for reader in range(len(book.readers())) if reader not in absent]


def times_read(book, rows, absent):
    """Return a list that tells of each work by how many present readers it is read."""
    present = [rows[reader] for reader in present_readers(book, absent)]
    return [len([row for row in present if work in row]) for work in range(len(book))]


def is_good(book, rows):
    """Return True if each work is read by just as many readers as its demand."""
    return times_read(book, rows, ()) == book.demands()


def is_enough(book, rows):
    """Return True if each work is read by at least as many readers as its demand."""
    return all([times >= demand for times, demand in zip(times_read(book, rows, ()), book.demands())])


def count(book, rows, reader, works):
    """Return how many works of the set the reader can read beside what it reads outside of the set."""
    limit, may = book.readers()[reader]
    outside = len([work for work in rows[reader] if work not in works])
    within = len([work for work in works if work in may])
    return min(limit - outside, within)


def is_short(book, rows, absent, works):
    """Return True if the present readers together count less for the set than its works demand."""
    demands = book.demands()
    counts = [count(book, rows, reader, works) for reader in present_readers(book, absent)]
    return sum(counts) < sum([demands[work] for work in works])


def contains(rows, absent, value):
    """Return True if in the second rows absent readers read nothing, and the others what they read in the first."""
    for reader, row in enumerate(value):
        if reader in absent:
            if len(row) > 0:
                return False
        elif not all([work in row for work in rows[reader]]):
            return False
    return True


def extends(book, rows, absent, value):
    """Return True if the value, which may be any value, are rows that extend the rows for these absent readers."""
    if not is_rows(book, value) or not contains(rows, absent, value):
        return False
    before = times_read(book, rows, absent)
    wanted = [max(demand, times) for demand, times in zip(book.demands(), before)]
    return times_read(book, value, absent) == wanted
