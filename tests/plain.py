"""Plain looks at what the document says, by its words and over all that there is.

They take nothing from the package but Book's lists, so that they can stand against it.
"""

from functools import lru_cache

from tests.helper import sets_of_works, subsets


@lru_cache(maxsize=None)
def most_within(limit, may, row, works):
    """Return the most works of the set that a reader can read beside just those outside of it that it reads now."""
    outside = set(row) - set(works)
    found = [some for some in subsets(may) if len(some) <= limit and set(some) - set(works) == outside]
    return max(len(set(some) & set(works)) for some in found)


def plain_count(book, rows, reader, works):
    """Point 7 in another way, without the two numbers of which the document takes the lesser."""
    limit, may = book.readers()[reader]
    return most_within(limit, may, rows[reader], works)


def plain_is_short(book, rows, absent, works):
    told = 0
    for reader in range(len(rows)):
        if reader not in absent:
            told += plain_count(book, rows, reader, works)
    return told < sum(book.demands()[work] for work in works)


def pairs(rows, absent):
    return {(reader, work) for reader, row in enumerate(rows) for work in row if reader not in absent}


def plain_extends(book, rows, absent, value):
    """Point 6 for a value that is rows of the book, in pairs of a reader and a work."""
    kept, new, absent_too = pairs(rows, absent), pairs(value, absent), pairs(value, ())
    if absent_too != new or not kept <= new:
        return False
    for work, demand in enumerate(book.demands()):
        before = sum(1 for pair in kept if pair[1] == work)
        if sum(1 for pair in new if pair[1] == work) != max(demand, before):
            return False
    return True


def present(book, absent):
    return [reader for reader in range(len(book.readers())) if reader not in absent]


def plain_chains(book, kept, rows, absent, work, earlier=()):
    """Return all chains for the work, point 9 link by link, of readers other than the earlier ones."""
    found = []
    for reader in present(book, absent):
        limit, may = book.readers()[reader]
        if reader in earlier or work not in may or work in rows[reader]:
            continue
        if len(rows[reader]) < limit:
            found.append([(reader, work, None)])
        for gives in set(rows[reader]) - set(kept[reader]):
            behind = plain_chains(book, kept, rows, absent, gives, earlier + (reader,))
            found += [[(reader, work, gives)] + rest for rest in behind]
    return found


def plain_is_closed(book, kept, rows, absent, works):
    """Point 9 for a set of works, reader by reader."""
    for reader in present(book, absent):
        limit, may = book.readers()[reader]
        reads_all = set(works) & set(may) <= set(rows[reader])
        reads_most = len(rows[reader]) == limit and set(rows[reader]) - set(works) <= set(kept[reader])
        if not reads_all and not reads_most:
            return False
    return True


def plain_closed_sets(book, kept, rows, absent):
    return [works for works in sets_of_works(book) if plain_is_closed(book, kept, rows, absent, works)]


def plain_reasons(book, rows, absent, number):
    """Return all reasons against the number: point 10 over all sets of works and all droppings."""
    found = []
    for droppers in subsets(present(book, absent)):
        if len(droppers) <= number:
            gone = absent + droppers
            found += [(works, droppers) for works in sets_of_works(book) if plain_is_short(book, rows, gone, works)]
    return found


def plain_borne(book, rows, absent, can_extend):
    """Return what borne should tell: point 10, where can_extend(gone) tells if the others can take over."""
    here = present(book, absent)
    borne = -1
    for number in range(len(here) + 1):
        droppings = [droppers for droppers in subsets(here) if len(droppers) == number]
        if not all(can_extend(tuple(sorted(absent + droppers))) for droppers in droppings):
            break
        borne = number
    return borne


def plain_difference(book, rows, absent, works):
    """Return the difference of the demands of the set together and the plain counts of the present readers for it."""
    wanted = sum(book.demands()[work] for work in works)
    return wanted - sum(plain_count(book, rows, reader, works) for reader in present(book, absent))


def plain_differences(book, rows, absent):
    return {works: plain_difference(book, rows, absent, works) for works in sets_of_works(book)}


def plain_nothing(book):
    return [()] * len(book.readers())


def plain_short_sets(book, absent):
    """Return all sets that are short for rows in which nobody reads."""
    return [works for works, number in plain_differences(book, plain_nothing(book), absent).items() if number > 0]


def plain_good_rows(book, absent):
    """Return all good rows for the absent readers: points 5 and 12, reader by reader."""
    found = [((), tuple(book.demands()))]
    for reader, (limit, may) in enumerate(book.readers()):
        choices = [()] if reader in absent else [some for some in subsets(may) if len(some) <= limit]
        found = [
            (rows + (some,), tuple(many - (work in some) for work, many in enumerate(left)))
            for rows, left in found for some in choices if all(left[work] > 0 for work in some)
        ]
    return [list(rows) for rows, left in found if not any(left)]


def plain_is_good(book, absent, value):
    """Point 12 for a value that is rows of the book, in pairs of a reader and a work."""
    told = [work for _, work in pairs(value, absent)]
    times = [told.count(work) for work in range(len(book))]
    return pairs(value, absent) == pairs(value, ()) and times == book.demands()


def plain_least_tight(book, absent, work):
    """Return what is in all tight sets with the work; None if there is none."""
    differences = plain_differences(book, plain_nothing(book), absent)
    tight = [set(works) for works, number in differences.items() if number == 0 and work in works]
    if not tight:
        return None
    return tuple(sorted(set.intersection(*tight)))


def plain_kept(rows, value, absent):
    """Return how many readings of present readers in the rows are kept in the value."""
    return len(pairs(rows, absent) & pairs(value, absent))


def plain_bound(book, rows, absent, prices):
    """Point 14 for a list of prices, over all sets of works that a reader could choose."""
    found = sum(demand * price for demand, price in zip(book.demands(), prices, strict=True))
    for reader in present(book, absent):
        limit, may = book.readers()[reader]
        gains = {work: (work in rows[reader]) - prices[work] for work in may}
        found += max(sum(gains[work] for work in some) for some in subsets(may) if len(some) <= limit)
    return found


def plain_greatest_borne(book, rows, absent):
    """Return the greatest number d so that each set is counted for enough without the d that count most for it."""
    here = present(book, absent)
    greatest = len(here)
    for works in sets_of_works(book):
        counts = sorted(plain_count(book, rows, reader, works) for reader in here)
        wanted = sum(book.demands()[work] for work in works)
        enough = [d for d in range(len(here) + 1) if sum(counts[:len(here) - d]) >= wanted]
        greatest = min([greatest] + [len(enough) - 1])
    return greatest
