"""A house: a book, rows and absent readers that changes lead on, and the reasons that it told."""

from eachworkread.books import MOST_WORKS, Book
from eachworkread.droppings import borne, is_reason, reason
from eachworkread.errors import BadDemand, BadLimit, NoComing, NoDropping, NoReader, NothingDone, NoWork, Short
from eachworkread.errors import TooManyWorks
from eachworkread.extending import extension, without
from eachworkread.further import with_reader
from eachworkread.goodrows import nobody_reads, with_demand
from eachworkread.relaid import relaid
from eachworkread.values import is_amount, is_ascending, is_integer


def is_number_below(value, many):
    """Return True if the value is an integer from 0 that is less than many."""
    return is_integer(value) and 0 <= value < many


def with_work(book, demand, readers):
    """Return the book with one work more, which just these readers may read."""
    new = len(book)
    wider = []
    for reader, (limit, may) in enumerate(book.readers()):
        wider.append((limit, may + (new,) if reader in readers else may))
    return Book(book.demands() + [demand], wider)


class House:
    """A book, rows and absent readers, with the changes that led there and the reasons that were told."""

    def __init__(self, book):
        self._book = book
        self._rows = nobody_reads(book)
        self._absent = ()
        self._changes = []
        self._reasons = []

    def book_now(self):
        """Return the book now."""
        return self._book

    def rows_now(self):
        """Return the rows now."""
        return list(self._rows)

    def absent_now(self):
        """Return the ascending tuple of the absent readers now."""
        return self._absent

    def __len__(self):
        return len(self._changes)

    def _stand(self, book, rows, absent):
        """Let the house stand so; absent readers leave the droppers of reasons, and what is none any more falls."""
        self._book = book
        self._rows = rows
        self._absent = absent
        told = [(works, tuple([one for one in droppers if one not in absent])) for works, droppers in self._reasons]
        self._reasons = [one for one in told if is_reason(book, rows, absent, len(one[1]), one)]

    def _change(self, book, rows, absent):
        """Lead the house on, and remember how it stood."""
        self._changes.append((self._book, self._rows, self._absent))
        self._stand(book, rows, absent)

    def drop_out(self, readers):
        """Make these readers absent; raise NoDropping if this is no ascending tuple of present readers."""
        if not is_ascending(readers, len(self._rows)) or len(readers) == 0:
            raise NoDropping(readers)
        if any([reader in self._absent for reader in readers]):
            raise NoDropping(readers)
        absent = tuple(sorted(self._absent + readers))
        self._change(self._book, without(self._rows, absent), absent)

    def come_back(self, reader):
        """Make the reader present again; raise NoComing if this is no absent reader."""
        if not is_integer(reader) or reader not in self._absent:
            raise NoComing(reader)
        self._change(self._book, self._rows, tuple([other for other in self._absent if other != reader]))

    def extend(self):
        """Extend the rows as extension tells; raise Short if a set is short."""
        kind, found = extension(self._book, self._rows, self._absent)
        if kind == "no":
            raise Short(found)
        self._change(self._book, found, self._absent)

    def lay_anew(self):
        """Lay the rows anew as relaid tells, and return how many readings are kept; raise Short if there are none."""
        number, rows, _ = relaid(self._book, self._rows, self._absent)
        self._change(self._book, rows, self._absent)
        return number

    def set_demand(self, work, demand):
        """Change the demand of a work; raise NoWork or BadDemand if this cannot be."""
        if not is_number_below(work, len(self._book)):
            raise NoWork(work)
        if not is_amount(demand):
            raise BadDemand(demand)
        self._change(with_demand(self._book, work, demand), self._rows, self._absent)

    def set_limit(self, reader, limit):
        """Change the limit of a reader; raise NoReader or BadLimit if this cannot be."""
        if not is_number_below(reader, len(self._rows)):
            raise NoReader(reader)
        if not is_amount(limit) or limit < len(self._rows[reader]):
            raise BadLimit(limit)
        _, may = self._book.readers()[reader]
        self._change(with_reader(self._book, reader, limit, may), self._rows, self._absent)

    def add_work(self, demand, readers):
        """Add a work that just these readers may read, and return its number; or raise what bars it."""
        new = len(self._book)
        if new >= MOST_WORKS:
            raise TooManyWorks()
        if not is_amount(demand):
            raise BadDemand(demand)
        if not is_ascending(readers, len(self._rows)):
            raise NoReader(readers)
        self._change(with_work(self._book, demand, readers), self._rows, self._absent)
        return new

    def undo(self):
        """Undo the last change that is not undone; raise NothingDone if there is none."""
        if len(self._changes) == 0:
            raise NothingDone()
        book, rows, absent = self._changes.pop()
        self._stand(book, rows, absent)

    def borne_now(self):
        """Return the greatest number that is borne."""
        return borne(self._book, self._rows, self._absent)

    def why_not(self, number):
        """Return None if the number is borne, otherwise a kept reason against it, or another one, which is kept now."""
        for told in self._reasons:
            if len(told[1]) <= number:
                return told
        found = reason(self._book, self._rows, self._absent, number)
        if found is not None:
            self._reasons.append(found)
        return found

    def kept(self):
        """Return the list of the kept reasons, in the order in which they were told."""
        return list(self._reasons)

    def fork(self):
        """Return a new house that stands as this one does, with its changes and kept reasons."""
        other = House(self._book)
        other._rows = list(self._rows)
        other._absent = self._absent
        other._changes = list(self._changes)
        other._reasons = list(self._reasons)
        return other
