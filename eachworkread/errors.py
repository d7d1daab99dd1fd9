"""The errors that the package raises."""


# The messages leave out the values: a value may be of any kind, and Python refuses to write out a very great integer.


class ReadError(ValueError):
    """The base class of all errors of the package."""


class BadBook(ReadError):
    """The demands or the list of readers are wrong (place None), or the reader with this number is."""

    def __init__(self, place):
        ReadError.__init__(self, "the demands or a reader make no book")
        self.place = place


class NoDropping(ReadError):
    """These are no readers who can drop out."""

    def __init__(self, droppers):
        ReadError.__init__(self, "not an ascending tuple of one or more present readers")
        self.droppers = droppers


class NoComing(ReadError):
    """This is no reader who can come back."""

    def __init__(self, reader):
        ReadError.__init__(self, "not an absent reader")
        self.reader = reader


class Short(ReadError):
    """The rows that are asked for do not exist, because this set of works is short."""

    def __init__(self, works):
        ReadError.__init__(self, "a set of works is short")
        self.works = works


class TooFew(ReadError):
    """Fewer present readers may read this work than its demand."""

    def __init__(self, work):
        ReadError.__init__(self, "fewer present readers may read a work than its demand")
        self.work = work


class BadDemand(ReadError):
    """This is no demand."""

    def __init__(self, demand):
        ReadError.__init__(self, "not a demand")
        self.demand = demand


class BadLimit(ReadError):
    """This is no limit, or less than the reader reads."""

    def __init__(self, limit):
        ReadError.__init__(self, "not a limit, or less than the reader reads")
        self.limit = limit


class NoWork(ReadError):
    """This is no work of the book."""

    def __init__(self, work):
        ReadError.__init__(self, "not a work of the book")
        self.work = work


class NoReader(ReadError):
    """This is no reader of the book, or no tuple of such."""

    def __init__(self, reader):
        ReadError.__init__(self, "not a reader of the book, or not an ascending tuple of readers")
        self.reader = reader


class TooManyWorks(ReadError):
    """The book has as many works as a book can have."""

    def __init__(self):
        ReadError.__init__(self, "the book has six works")


class NothingDone(ReadError):
    """There is no change that could be undone."""

    def __init__(self):
        ReadError.__init__(self, "no change is left to undo")
