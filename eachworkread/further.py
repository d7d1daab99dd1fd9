"""Further readings: by how much limits have to be raised so that rows can be extended."""

from eachworkread.books import Book
from eachworkread.errors import TooFew
from eachworkread.extending import walked, without
from eachworkread.rows import count, present_readers, times_read
from eachworkread.steps import step, takers
from eachworkread.values import sets_of_works


def lack(book, rows, readers, works):
    """Return the difference of the demands of the set together and the counts of these readers for it together."""
    demands = book.demands()
    wanted = sum([demands[work] for work in works])
    return wanted - sum([count(book, rows, reader, works) for reader in readers])


def greatest_lack(book, rows, readers):
    """Return (number, works): the greatest difference that a set has for these readers, and a set that has it."""
    found = [(lack(book, rows, readers, works), works) for works in sets_of_works(len(book))]
    return max(found, key=lambda told: told[0])


def refuse_too_few(book, absent):
    """Raise TooFew with the first work that fewer present readers may read than its demand, if there is one."""
    readers = book.readers()
    here = present_readers(book, absent)
    for work, demand in enumerate(book.demands()):
        if len([reader for reader in here if work in readers[reader][1]]) < demand:
            raise TooFew(work)


def with_reader(book, reader, limit, may):
    """Return the book with another limit, or other works that it may read, for one reader."""
    readers = book.readers()
    readers[reader] = (limit, may)
    return Book(book.demands(), readers)


def raised_for(book, rows, reader):
    """Return the book in which the limit of the reader is just enough for one work more than it reads."""
    return with_reader(book, reader, len(rows[reader]) + 1, book.readers()[reader][1])


def widened(book, rows, absent):
    """Return (wider, behind): the book with as few raises as are needed, and rows in it that extend these."""
    kept = without(rows, absent)
    behind = kept
    wider = book
    demands = book.demands()
    for work, times in enumerate(times_read(book, kept, absent)):
        for _ in range(demands[work] - times):
            kind, found = step(wider, kept, behind, absent, work)
            if kind == "closed":
                # The closed set lacks one reading, so that one raise is needed. There is a reader left to take
                # the work, because as many of them may read it as its demand.
                reader = takers(wider, behind, absent, work)[0]
                wider = raised_for(wider, behind, reader)
                found = [(reader, work, None)]
            behind = walked(behind, found)
    return wider, behind


def further_limits(book, rows, absent):
    """Return (number, limits, new rows, works): the least raise, limits and rows with it, and a set that lacks it."""
    refuse_too_few(book, absent)
    number, works = greatest_lack(book, rows, present_readers(book, absent))
    wider, behind = widened(book, rows, absent)
    limits = [limit for limit, _ in wider.readers()]
    if number > 0:
        return number, limits, behind, works
    return 0, limits, behind, ()
