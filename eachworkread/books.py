"""Books: how often works are to be read, and by whom they may be read."""

from eachworkread.errors import BadBook
from eachworkread.values import is_amount, is_ascending

MOST_WORKS = 6
MOST_READERS = 6


def are_demands(value):
    """Return True if the value is a list of one to six demands."""
    if not isinstance(value, list) or not 1 <= len(value) <= MOST_WORKS:
        return False
    return all([is_amount(demand) for demand in value])


def is_reader(value, many):
    """Return True if the value is a reader in a book with so many works."""
    if not isinstance(value, tuple) or len(value) != 2:
        return False
    limit, may = value
    return is_amount(limit) and is_ascending(may, many)


class Book:
    """The demands of the works, and the readers, each with a limit and the works that it may read."""

    def __init__(self, demands, readers):
        if not are_demands(demands) or not isinstance(readers, list) or len(readers) > MOST_READERS:
            raise BadBook(None)
        for place, reader in enumerate(readers):
            if not is_reader(reader, len(demands)):
                raise BadBook(place)
        self._demands = list(demands)
        self._readers = list(readers)

    def demands(self):
        """Return the list of the demands."""
        return list(self._demands)

    def readers(self):
        """Return the list of the readers."""
        return list(self._readers)

    def __len__(self):
        return len(self._demands)

    def __eq__(self, other):
        return isinstance(other, Book) and self._demands == other._demands and self._readers == other._readers
