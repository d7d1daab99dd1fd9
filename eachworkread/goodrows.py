"""Good rows: whether there are some, what they have in common, and what can be chosen in them."""

from eachworkread.books import Book
from eachworkread.errors import Short
from eachworkread.extending import extension
from eachworkread.further import greatest_lack, lack, with_reader
from eachworkread.rows import present_readers
from eachworkread.values import sets_of_works


def nobody_reads(book):
    """Return the rows in which nobody reads."""
    return [() for _ in book.readers()]


def good_rows(book, absent):
    """Return ("yes", good rows for these absent readers), or ("no", a set that is short when nobody reads)."""
    return extension(book, nobody_reads(book), absent)


def some_good_rows(book, absent):
    """Return good rows for these absent readers; raise Short if there are none."""
    kind, found = good_rows(book, absent)
    if kind == "no":
        raise Short(found)
    return found


def are_good_rows(book, absent):
    """Return True if there are good rows for these absent readers."""
    return good_rows(book, absent)[0] == "yes"


def with_demand(book, work, demand):
    """Return the book with another demand for one work."""
    demands = book.demands()
    demands[work] = demand
    return Book(demands, book.readers())


def least_tight(book, absent, work):
    """Return the least tight set with the work, None if it is in none; raise Short if there are no good rows."""
    some_good_rows(book, absent)
    nothing = nobody_reads(book)
    here = present_readers(book, absent)
    around = [works for works in sets_of_works(len(book)) if work in works]
    tight = [works for works in around if lack(book, nothing, here, works) == 0]
    # What two tight sets have in common is tight, too: so the one with the fewest works is in all of them.
    return min(tight, key=len, default=None)


def can_read(book, absent, reader, work):
    """Return True if the reader reads the work in some good rows."""
    limit, may = book.readers()[reader]
    demand = book.demands()[work]
    if limit == 0 or demand == 0 or work not in may:
        return False
    others = tuple([other for other in may if other != work])
    left = with_reader(book, reader, limit - 1, others)
    return are_good_rows(with_demand(left, work, demand - 1), absent)


def can_leave(book, absent, reader, work):
    """Return True if the reader does not read the work in some good rows."""
    limit, may = book.readers()[reader]
    others = tuple([other for other in may if other != work])
    return are_good_rows(with_reader(book, reader, limit, others), absent)


def pair(book, absent, reader, work):
    """Return (with, without): if the reader reads the work in some good rows, and if not in some; or raise Short."""
    some_good_rows(book, absent)
    return can_read(book, absent, reader, work), can_leave(book, absent, reader, work)


def readings(book, absent, reader):
    """Return (least, greatest), the numbers of works that the reader reads in good rows; or raise Short."""
    some_good_rows(book, absent)
    others = [other for other in present_readers(book, absent) if other != reader]
    least, _ = greatest_lack(book, nobody_reads(book), others)
    limit, may = book.readers()[reader]
    demands = book.demands()
    wanted = [work for work in may if demands[work] > 0]
    return max(least, 0), min(limit, len(wanted))


def good_with(book, absent, reader, works):
    """Return good rows in which the reader reads just the works; None if there are none."""
    limit, may = book.readers()[reader]
    demands = book.demands()
    if len(works) > limit or not all([work in may and demands[work] > 0 for work in works]):
        return None
    left = with_reader(book, reader, 0, ())
    for work in works:
        left = with_demand(left, work, demands[work] - 1)
    kind, found = good_rows(left, absent)
    if kind == "no":
        return None
    return [works if other == reader else row for other, row in enumerate(found)]
