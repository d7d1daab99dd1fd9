"""Steps: how one work more can be read while some rows are kept, or which set of works bars it."""

from eachworkread.rows import present_readers
from eachworkread.values import is_integer, is_set_of_works


def is_free(book, rows, reader):
    """Return True if the reader reads fewer works than its limit."""
    return len(rows[reader]) < book.readers()[reader][0]


def can_take(book, rows, reader, work):
    """Return True if the reader may read the work and does not read it."""
    return work in book.readers()[reader][1] and work not in rows[reader]


def takers(book, rows, absent, work):
    """Return the list of the present readers that can take the work."""
    return [reader for reader in present_readers(book, absent) if can_take(book, rows, reader, work)]


def loose_works(kept, rows, reader):
    """Return the list of the works that the reader reads, but not in the kept rows."""
    return [work for work in rows[reader] if work not in kept[reader]]


def step(book, kept, rows, absent, work):
    """Return ("chain", a chain for the work), or ("closed", a closed set with the work)."""
    # A reader that is asked for a second work gives nothing new: no chain has a reader twice.
    chains = {work: []}
    waiting = [work]
    while len(waiting) > 0:
        takes = waiting.pop(0)
        for reader in takers(book, rows, absent, takes):
            if is_free(book, rows, reader):
                return "chain", chains[takes] + [(reader, takes, None)]
            for gives in loose_works(kept, rows, reader):
                if gives not in chains:
                    chains[gives] = chains[takes] + [(reader, takes, gives)]
                    waiting.append(gives)
    return "closed", tuple(sorted(chains))


def is_link(book, kept, rows, absent, work, value):
    """Return True if the value is a tuple (reader, takes, gives) that can stand in a chain where the work is taken."""
    if not isinstance(value, tuple) or len(value) != 3:
        return False
    reader, takes, gives = value
    if not is_integer(reader) or not is_integer(takes) or takes != work:
        return False
    if reader not in takers(book, rows, absent, work):
        return False
    if gives is None:
        return is_free(book, rows, reader)
    return is_integer(gives) and gives in loose_works(kept, rows, reader)


def is_chain(book, kept, rows, absent, work, value):
    """Return True if the value, which may be any value, is a chain for the work."""
    if not isinstance(value, list):
        return False
    wanted = work
    earlier = []
    for link in value:
        # Behind a reader that gives None nothing is wanted, and no link takes that.
        if not is_link(book, kept, rows, absent, wanted, link) or link[0] in earlier:
            return False
        earlier.append(link[0])
        wanted = link[2]
    return wanted is None


def is_barred(book, kept, rows, reader, works):
    """Return True if the reader can take no work of the set, or only when it gives another one of the set."""
    if not any([can_take(book, rows, reader, work) for work in works]):
        return True
    if is_free(book, rows, reader):
        return False
    return all([work in works for work in loose_works(kept, rows, reader)])


def is_closed(book, kept, rows, absent, value):
    """Return True if the value, which may be any value, is a closed set."""
    if not is_set_of_works(value, len(book)):
        return False
    return all([is_barred(book, kept, rows, reader, value) for reader in present_readers(book, absent)])
