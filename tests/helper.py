"""What several tests use: odd values, values with one part altered, and drawn books.

Everything here is plain counting that takes nothing from the package but Book, so that it can stand against it.
"""

from itertools import combinations, product
from random import Random

from eachworkread.books import Book
from eachworkread.errors import BadBook


def nested(kind, depth):
    """Return lists, tuples or dicts that are nested so deep."""
    value = 0
    for _ in range(depth):
        if kind is dict:
            value = {0: value}
        else:
            value = kind([value])
    return value


def odd_values():
    """Return values of many kinds, made anew in each call."""
    plain = [None, True, False, 0, -1, 7, 10 ** 30, -10 ** 30, "", "0", "two words", b"0"]
    flat = [(), [], {}, (0,), [0], {0: 0}, {(0, 1): (0,)}, (True,), (1, 0), (0, 0), (0, ()), [0, ()], (None, None)]
    deep = [nested(kind, depth) for kind in (list, tuple, dict) for depth in (2, 50)]
    returned = [Book([0], []), [Book([1], [(1, (0,))])], (Book([0], []),), BadBook(0), [(0, 1), (), (2,)]]
    return plain + flat + deep + returned


def few_odd_values():
    return [None, True, False, 0, -1, 7, "0", (), [], {}, (0,), Book([0], [])]


def altered_number(value):
    return [value + 1, value - 1, value + 7, -value, str(value), [value], (value,), bool(value)]


def altered_parts(value):
    """Return what a list or tuple becomes when one of its parts is left out, put in or altered."""
    kind, parts = type(value), list(value)
    found = [tuple(parts) if kind is list else parts, kind(reversed(parts)), kind(parts * 2)]
    found += [dict(enumerate(parts)), kind([value]), kind(parts * 1000)]
    for k in range(len(parts)):
        found.append(kind(parts[:k] + parts[k + 1:]))
        found.append(kind(parts[:k] + [parts[k]] + parts[k:]))
        found += [kind(parts[:k] + [part] + parts[k + 1:]) for part in altered(parts[k])]
    for k in range(len(parts) + 1):
        found += [kind(parts[:k] + [odd] + parts[k:]) for odd in few_odd_values()]
    return found


def altered(value):
    """Return a list of the value with one part exchanged, left out, put in, or made greater or less."""
    if type(value) is int:
        return odd_values() + altered_number(value)
    if type(value) in (list, tuple):
        return odd_values() + altered_parts(value)
    return odd_values()


def altered_part(random, value):
    """Return a single value altered: another number, another kind, or an odd value."""
    found = odd_values() + [None, True, False] + list(range(7)) * 3 + [str(value), [value], (value,), {0: value}]
    if type(value) is int:
        found += [value + 1, value - 1, -value, bool(value)] * 5
    if type(value) in (list, tuple):
        found += [list(value), tuple(value), list(value), tuple(value), dict(enumerate(value))] * 5
    return random.choice(found)


def altered_at_random(random, value):
    """Return the value with one drawn thing, at any depth, exchanged, left out, put in, or made greater or less."""
    if type(value) not in (list, tuple) or not value or random.random() < 0.15:
        return altered_part(random, value)
    kind, parts = type(value), list(value)
    at, other = random.randrange(len(parts)), random.randrange(len(parts))
    way = random.randrange(8)
    if way == 0:
        del parts[at]
    elif way == 1:
        parts.insert(at, altered_part(random, parts[other]))
    elif way == 2:
        parts[at], parts[other] = parts[other], parts[at]
    elif way == 3:
        parts.insert(at, parts[other])
    else:
        parts[at] = altered_at_random(random, parts[at])
    return kind(parts)


def altered_once_and_twice(random, value, many):
    """Return many drawn values that differ from the value by one thing, and as many that differ by two."""
    once = [altered_at_random(random, value) for _ in range(many)]
    return once + [altered_at_random(random, one) for one in once]


def subsets(numbers):
    """Return all ascending tuples of different ones of the numbers."""
    return [some for size in range(len(numbers) + 1) for some in combinations(numbers, size)]


def sets_of_works(book):
    return subsets(range(len(book)))[1:]


def possible_rows(book):
    """Return all rows of the book."""
    choices = [[row for row in subsets(may) if len(row) <= limit] for limit, may in book.readers()]
    return [list(rows) for rows in product(*choices)]


def drawn_subset(random, numbers):
    return tuple(number for number in numbers if random.random() < 0.6)


def drawn_book(random, works, readers):
    demands = [random.choice([0, 1, 1, 2, 2, 3]) for _ in range(works)]
    return Book(demands, [(random.randrange(5), drawn_subset(random, range(works))) for _ in range(readers)])


def drawn_rows(random, book):
    rows = []
    for limit, may in book.readers():
        many = random.randint(0, min(limit, len(may)))
        rows.append(tuple(sorted(random.sample(may, many))))
    return rows


def drawn_absent(random, book):
    return tuple(reader for reader in range(len(book.readers())) if random.random() < 0.3)


def drawn_cases(seed, many, most):
    """Return many tuples (book, rows, absent) with at most so many works and readers, the same for the same seed."""
    random = Random(seed)
    cases = []
    for _ in range(many):
        book = drawn_book(random, random.randint(1, most), random.randint(0, most))
        cases.append((book, drawn_rows(random, book), drawn_absent(random, book)))
    return cases


def drawn_row_of_readers(random, works, many):
    """Return a tuple (book, rows, absent) in which readers at their limits can hand works on, one to the next one."""
    order = random.sample(range(works), works)
    drawn = []
    for k in range(many):
        reads = {order[(k + 1) % works]} | {work for work in order if random.random() < 0.15}
        may = reads | {order[k % works]} | {work for work in order if random.random() < 0.1}
        limit = len(reads) if random.random() < 0.8 else len(reads) + 1
        drawn.append(((limit, tuple(sorted(may))), tuple(sorted(reads))))
    random.shuffle(drawn)
    absent = random.choice([(), (), (many - 1,)])
    return Book([1] * works, [reader for reader, _ in drawn]), [row for _, row in drawn], absent


def drawn_steps(seed, many, most):
    """Return many tuples (book, kept, rows, absent): the rows contain the kept ones, for the absent readers."""
    random = Random(seed)
    in_a_row = [drawn_row_of_readers(random, random.randint(2, most), random.randint(2, most)) for _ in range(many)]
    cases = []
    for book, drawn, absent in drawn_cases(seed, many // 2, most) + in_a_row[many // 2:]:
        part = random.choice([0, 0.1, 0.5, 1])
        rows = [() if reader in absent else row for reader, row in enumerate(drawn)]
        kept = [tuple(work for work in row if random.random() < part) for row in drawn]
        cases.append((book, kept, rows, absent))
    return cases


def drawn_reader(random, works):
    """Return a reader that may read most works, and some works that it can read."""
    may = tuple(work for work in range(works) if random.random() < 0.75)
    reads = tuple(work for work in may if random.random() < 0.45)
    return (min(len(reads) + random.choice([0, 0, 0, 1, 2]), 6), may), reads


def drawn_good_book(random, works, readers):
    """Return a tuple (book, absent) with good rows: each work is demanded as often as some drawn rows read it."""
    many = random.choice([0, 0, 0, 1, 2]) if readers > 2 else 0
    absent = tuple(sorted(random.sample(range(readers), many)))
    drawn = [drawn_reader(random, works) for _ in range(readers)]
    told = [work for reader, (_, reads) in enumerate(drawn) if reader not in absent for work in reads]
    return Book([told.count(work) for work in range(works)], [reader for reader, _ in drawn]), absent


def drawn_good_cases(seed, many, works, readers):
    """Return many tuples (book, rows, absent) with good rows, with at most so many works and readers."""
    random = Random(seed)
    cases = []
    for _ in range(many):
        many_works, many_readers = random.randint(1, works), random.randint(0, readers)
        if random.random() < 0.7:
            many_works, many_readers = works - many_works // works, readers
        book, absent = drawn_good_book(random, many_works, many_readers)
        cases.append((book, drawn_rows(random, book), absent))
    return cases


def drawn_mixed_cases(seed, many, works, readers):
    """Return many tuples (book, rows, absent): a part with good rows, a part where a demand is one more or less."""
    random = Random(seed)
    cases = []
    for k, (book, rows, absent) in enumerate(drawn_good_cases(seed, many, works, readers)):
        if k % 3 == 0:
            demands = book.demands()
            work = random.randrange(works) % len(book)
            demands[work] = min(max(demands[work] + random.choice([1, 1, -1]), 0), 6)
            book = Book(demands, book.readers())
        cases.append((book, rows, absent))
    return cases


def drawn_prices(random, book, most):
    return [random.randint(-most, most) for _ in range(len(book))]


def told_of(*values):
    """Return a text that tells everything in the values, the lists of the books among them too, with their kinds."""
    return repr([[one.demands(), one.readers()] if type(one) is Book else one for one in values])


def lists_in(value):
    """Return all lists that stand in the value, at any depth."""
    if type(value) not in (list, tuple):
        return []
    return [value] * (type(value) is list) + [found for part in value for found in lists_in(part)]
