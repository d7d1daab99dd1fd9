"""Extending: rows in which the present readers keep what they read and take over the rest."""

from eachworkread.rows import is_short, times_read
from eachworkread.steps import step
from eachworkread.values import sets_of_works


def without(rows, absent):
    """Return the rows in which absent readers read nothing, and the others what they read in these."""
    return [() if reader in absent else row for reader, row in enumerate(rows)]


def walked(rows, chain):
    """Return the rows behind the chain."""
    behind = list(rows)
    for reader, takes, gives in chain:
        behind[reader] = tuple(sorted([work for work in rows[reader] if work != gives] + [takes]))
    return behind


def extended(book, rows, absent):
    """Return rows that extend the rows for these absent readers, where no set is short."""
    kept = without(rows, absent)
    behind = list(kept)
    demands = book.demands()
    for work, times in enumerate(times_read(book, kept, absent)):
        for _ in range(demands[work] - times):
            # A closed set that is told here would be short: all of its works were read too seldom in the kept rows.
            found = step(book, kept, behind, absent, work)
            behind = walked(behind, found[1])
    return behind


def extension(book, rows, absent):
    """Return ("yes", rows that extend the rows for these absent readers), or ("no", a short set)."""
    for works in sets_of_works(len(book)):
        if is_short(book, rows, absent, works):
            return "no", works
    return "yes", extended(book, rows, absent)
