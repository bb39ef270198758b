"""Calls, values and answers as the tests write them."""

from keptversions import desk

MAP, SET, QUEUE, ROWS = 0, 1, 2, 3
ORDERS = (0, 1, 2)
KINDS = [(kind, order) for kind in (MAP, SET, QUEUE) for order in ORDERS] + [(ROWS, 0)]

NOTHING = [1]
NO_RANGE = [-1]
NO_ABSENT = [-2]
NO_KIND = [-3]
NO_FULL = [-4]

LAST_NUMBER = 4294967295

FALSE = [0, 0]
TRUE = [0, 1]


def number(n, d=1):
    return [1, n, d]


def text(of):
    row = list(of.encode("ascii")) if isinstance(of, str) else list(of)
    return [2, len(row)] + row


def listed(*parts):
    return [3, len(parts)] + [each for part in parts for each in part]


def nested(depth):
    """An empty list within others: its depth is `depth`."""
    value = listed()
    for turn in range(depth - 1):
        value = listed(value)
    return value


def row(value):
    return [len(value)] + value


def new(kind, order=0):
    return [1, kind, order]


def put(v, key_value, value):
    return [2, v] + row(key_value) + row(value)


def key(v, key_value):
    return [3, v] + row(key_value)


def drop(v, key_value):
    return [4, v] + row(key_value)


def get(v, key_value):
    return [5, v] + row(key_value)


def count(v):
    return [6, v]


def rank(v, key_value):
    return [7, v] + row(key_value)


def at(v, i):
    return [8, v, i]


def part(v, i, many):
    return [9, v, i, many]


def join(v, u, how):
    return [10, v, u, how]


def add(v, rank_value, value):
    return [11, v] + row(rank_value) + row(value)


def take(v, many):
    return [12, v, many]


def insert(v, i, value):
    return [13, v, i] + row(value)


def change(v, i, value):
    return [14, v, i] + row(value)


def remove(v, i, many):
    return [15, v, i, many]


def in_order(v, order):
    return [16, v, order]


def forget(v):
    return [17, v]


def room():
    return [18]


def kind_of(v):
    return [19, v]


def form(v):
    return [20, v]


def of(value):
    return [21] + row(value)


def same(v, u):
    return [22, v, u]


def before(order, x, y):
    return [23, order] + row(x) + row(y)


def differ(v, u):
    return [24, v, u]


def split(told):
    """The answers one by one."""
    each = []
    here = 0
    while here < len(told):
        stop = here + 1 + told[here]
        assert stop <= len(told)
        each.append(told[here + 1:stop])
        here = stop
    return each


def run(*calls):
    """The answer of each call, as a list of lists."""
    flat = [each for call in calls for each in call]
    assert len(flat) <= 16000 and len(calls) <= 1200, (len(flat), len(calls))
    told = split(desk.answers(flat))
    assert len(told) == len(calls)
    return told


def last(*calls):
    return run(*calls)[-1]


def run_on(shelf, *calls):
    """The answer of each call on a shelf that is there already."""
    flat = [each for call in calls for each in call]
    return [desk.answer_call(shelf, *call) for call in desk.read_calls(flat)]


def asked(v, many):
    """Calls that ask for all of a version's entries."""
    return [count(v)] + [at(v, i) for i in range(many)]


def told_entries(entries):
    """What `asked` is answered for these entries."""
    return [[0, len(entries)]] + [[0] + entry for entry in entries]


def built(kind, order, entries, first=0):
    """Calls that make a version with these entries, from version number `first` on; and its number."""
    calls = [new(kind, order)]
    for turn, entry in enumerate(entries):
        if kind == MAP:
            calls.append(put(first + turn, *entry))
        elif kind == SET:
            calls.append(key(first + turn, entry))
        elif kind == QUEUE:
            calls.append(add(first + turn, *entry))
        else:
            calls.append(insert(first + turn, turn, entry))
    return calls, first + len(entries)


def plain_entries(kind, keys):
    """Entries of that kind with these keys (ranks, values), each pair's value the same."""
    return [(each, number(1)) for each in keys] if kind in (MAP, QUEUE) else list(keys)


def form_value(kind, order, entries):
    """The form of a version with these entries, pairs in maps and queues, values else."""
    told = [listed(*entry) if kind in (MAP, QUEUE) else entry for entry in entries]
    return listed(number(kind), number(order), listed(*told))
