"""Calls, values and answers as the tests write them."""

from keptversions import desk
from keptversions.shelf import Entry, ROW, Shelf, Version, keep_version
from keptversions.value import checked_value

MAP, SET, QUEUE, ROWS = 0, 1, 2, 3
ORDERS = (0, 1, 2)

NOTHING = [1]
NO_RANGE = [-1]
NO_ABSENT = [-2]
NO_KIND = [-3]
NO_FULL = [-4]

LAST_NUMBER = 4294967295

FALSE = [0, 0]
TRUE = [0, 1]


def number(n, d=1):
    return [1, n, d]


def text(of):
    row = list(of.encode("ascii")) if isinstance(of, str) else list(of)
    return [2, len(row)] + row


def listed(*parts):
    return [3, len(parts)] + [each for part in parts for each in part]


def nested(depth):
    """An empty list within others: its depth is `depth`."""
    value = listed()
    for turn in range(depth - 1):
        value = listed(value)
    return value


def row(value):
    return [len(value)] + value


def new(kind, order=0):
    return [1, kind, order]


def put(v, key_value, value):
    return [2, v] + row(key_value) + row(value)


def key(v, key_value):
    return [3, v] + row(key_value)


def drop(v, key_value):
    return [4, v] + row(key_value)


def get(v, key_value):
    return [5, v] + row(key_value)


def count(v):
    return [6, v]


def rank(v, key_value):
    return [7, v] + row(key_value)


def at(v, i):
    return [8, v, i]


def part(v, i, many):
    return [9, v, i, many]


def join(v, u, how):
    return [10, v, u, how]


def add(v, rank_value, value):
    return [11, v] + row(rank_value) + row(value)


def take(v, many):
    return [12, v, many]


def split(told):
    """The answers one by one."""
    each = []
    here = 0
    while here < len(told):
        stop = here + 1 + told[here]
        assert stop <= len(told)
        each.append(told[here + 1:stop])
        here = stop
    return each


def run(*calls):
    """The answer of each call, as a list of lists."""
    flat = [each for call in calls for each in call]
    assert len(flat) <= 16000 and len(calls) <= 1200, (len(flat), len(calls))
    told = split(desk.answers(flat))
    assert len(told) == len(calls)
    return told


def last(*calls):
    return run(*calls)[-1]


def shelf_with_rows(*rows_of_values):
    """A shelf that keeps a row with each of these rows of values."""
    shelf = Shelf()
    for values in rows_of_values:
        checked = [checked_value(value) for value in values]
        entries = [Entry((), value.numbers, (), 1 + value.weight) for value in checked]
        keep_version(shelf, Version(ROW, 0, entries, 1 + sum(entry.room for entry in entries)))
    return shelf


def run_on(shelf, *calls):
    """The answer of each call on a shelf that is there already."""
    flat = [each for call in calls for each in call]
    return [desk.answer_call(shelf, *call) for call in desk.read_calls(flat)]


def asked(v, many):
    """Calls that ask for all of a version's entries."""
    return [count(v)] + [at(v, i) for i in range(many)]


def told_entries(entries):
    """What `asked` is answered for these entries."""
    return [[0, len(entries)]] + [[0] + entry for entry in entries]


def built(kind, order, entries, first=0):
    """Calls that make a version with these entries, from version number `first` on; and its number."""
    calls = [new(kind, order)]
    for turn, entry in enumerate(entries):
        if kind == MAP:
            calls.append(put(first + turn, *entry))
        elif kind == SET:
            calls.append(key(first + turn, entry))
        else:
            calls.append(add(first + turn, *entry))
    return calls, first + len(entries)
