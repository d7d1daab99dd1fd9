"""Rows laid anew: good rows that keep as many readings as they can, and prices that show that none keep more."""

from eachworkread.goodrows import some_good_rows
from eachworkread.rows import present_readers
from eachworkread.steps import is_free

# Beside the works there is a spare one, with the number behind theirs: who reads less than its limit reads it, too.
# So each swap is of the one kind (reader, takes, gives, loss), where the loss is in readings that are kept.


def worth(rows, reader, work):
    """Return 1 if the reader reads the work in the rows, otherwise 0."""
    if work in rows[reader]:
        return 1
    return 0


def swaps_of_reader(book, rows, behind, reader):
    """Return the list of the swaps that the reader can make in the rows behind."""
    spare = len(book)
    row = list(behind[reader])
    others = [work for work in book.readers()[reader][1] if work not in row]
    given = row + [spare] if is_free(book, behind, reader) else row
    return [
        (reader, takes, gives, worth(rows, reader, gives) - worth(rows, reader, takes))
        for gives in given for takes in others + [spare]
    ]


def all_swaps(book, rows, behind, absent):
    """Return the list of the swaps that the present readers can make in the rows behind."""
    found = []
    for reader in present_readers(book, absent):
        found = found + swaps_of_reader(book, rows, behind, reader)
    return found


def ring_before(lowered_by, work, many):
    """Return a ring: swaps that each take the work that the next one gives, and the last one that of the first one."""
    # A price that is still lowered in the last round was lowered by a ring, and so many steps back lead into it.
    start = work
    for _ in range(many):
        start = lowered_by[start][1]
    ring = [lowered_by[start]]
    while ring[-1][1] != start:
        ring.append(lowered_by[ring[-1][1]])
    return ring


def prices_or_ring(many, swaps):
    """Return (prices, []) with prices at which no swap gains, or (prices, ring) with a ring of swaps that gains."""
    prices = [0] * many
    lowered_by = {}
    for _ in range(many):
        last = None
        for swap in swaps:
            _, takes, gives, loss = swap
            if prices[takes] + loss < prices[gives]:
                prices[gives] = prices[takes] + loss
                lowered_by[gives] = swap
                last = gives
        if last is None:
            return prices, []
    return prices, ring_before(lowered_by, last, many)


def swapped(rows, ring, spare):
    """Return the rows behind all swaps of the ring."""
    behind = list(rows)
    for reader, takes, gives, _ in ring:
        behind[reader] = [work for work in behind[reader] if work != gives] + [takes]
    return [tuple(sorted([work for work in row if work != spare])) for row in behind]


def relaid(book, rows, absent):
    """Return (number, new rows, prices): the most readings that good rows keep, such rows, and prices with it as bound.

    Raises Short if there are no good rows.
    """
    spare = len(book)
    behind = some_good_rows(book, absent)
    prices, ring = prices_or_ring(spare + 1, all_swaps(book, rows, behind, absent))
    while len(ring) > 0:
        behind = swapped(behind, ring, spare)
        prices, ring = prices_or_ring(spare + 1, all_swaps(book, rows, behind, absent))
    number = sum([worth(rows, reader, work) for reader, row in enumerate(behind) for work in row])
    # The prices tell only by their differences, and the spare work costs nothing.
    return number, behind, [price - prices[spare] for price in prices[:spare]]


def greatest_gain(book, rows, reader, prices):
    """Return the greatest sum of gains of at most as many different works as the limit of the reader."""
    limit, may = book.readers()[reader]
    gains = sorted([worth(rows, reader, work) - prices[work] for work in may], reverse=True)
    return sum([gain for gain in gains[:limit] if gain > 0])


def bound(book, rows, absent, prices):
    """Return the bound of the prices: no good rows keep more readings."""
    paid = sum([demand * price for demand, price in zip(book.demands(), prices)])
    return paid + sum([greatest_gain(book, rows, reader, prices) for reader in present_readers(book, absent)])
