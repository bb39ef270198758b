"""The desk: reads a list of calls, has each done on a new shelf, and tells the answers."""

from keptversions.joining import IN_JUST_ONE, keep_joined
from keptversions.refusals import NoAbsent, NoFull, NoKind, NoRange
from keptversions.shelf import MAP, SET, QUEUE, ROW, LAST_ORDER, Shelf, Version
from keptversions.shelf import find_of_kind, find_version, first_behind, first_not_before
from keptversions.shelf import keep_part, keep_spliced, keep_version, key_entry, pair_entry
from keptversions.value import LIST, checked_value, place_of

LAST_NUMBER = 4294967295

TOLD = 0
NOTHING = 1

NO_RANGE = -1
NO_ABSENT = -2
NO_KIND = -3
NO_FULL = -4


# Gives where the entry with that place begins and ends: at once, if there is no such entry.
def key_span(version, place):
    start = first_not_before(version.entries, place)
    if start < len(version.entries) and version.entries[start].place == place:
        return (start, start + 1)
    return (start, start)


def keep_with_key(shelf, version, entry):
    span = key_span(version, entry.place)
    return [TOLD, keep_spliced(shelf, version, span[0], span[1], [entry])]


def entry_numbers(version, entry):
    if version.kind in (MAP, QUEUE):
        return [LIST, 2] + list(entry.key) + list(entry.value)
    return list(entry.key) + list(entry.value)


def call_new(shelf, wholes, rows):
    kind = wholes[0]
    order = wholes[1]
    if kind > ROW or order > LAST_ORDER or (kind == ROW and order > 0):
        raise NoRange()
    return [TOLD, keep_version(shelf, Version(kind, order, [], 1))]


def call_put(shelf, wholes, rows):
    key = checked_value(rows[0])
    value = checked_value(rows[1])
    version = find_of_kind(shelf, wholes[0], (MAP,))
    return keep_with_key(shelf, version, pair_entry(key, value, version.order))


def call_key(shelf, wholes, rows):
    key = checked_value(rows[0])
    version = find_of_kind(shelf, wholes[0], (SET,))
    return keep_with_key(shelf, version, key_entry(key, version.order))


def call_drop(shelf, wholes, rows):
    key = checked_value(rows[0])
    version = find_of_kind(shelf, wholes[0], (MAP, SET))
    span = key_span(version, place_of(key.numbers, version.order))
    if span[0] == span[1]:
        return [NOTHING]
    return [TOLD, keep_spliced(shelf, version, span[0], span[1], [])]


def call_get(shelf, wholes, rows):
    key = checked_value(rows[0])
    version = find_of_kind(shelf, wholes[0], (MAP, SET))
    span = key_span(version, place_of(key.numbers, version.order))
    if span[0] == span[1]:
        return [NOTHING]
    entry = version.entries[span[0]]
    if version.kind == SET:
        return [TOLD] + list(entry.key)
    return [TOLD] + list(entry.value)


def call_count(shelf, wholes, rows):
    return [TOLD, len(find_version(shelf, wholes[0]).entries)]


def call_rank(shelf, wholes, rows):
    key = checked_value(rows[0])
    version = find_of_kind(shelf, wholes[0], (MAP, SET, QUEUE))
    return [TOLD, first_not_before(version.entries, place_of(key.numbers, version.order))]


def call_at(shelf, wholes, rows):
    version = find_version(shelf, wholes[0])
    if wholes[1] >= len(version.entries):
        raise NoAbsent()
    return [TOLD] + entry_numbers(version, version.entries[wholes[1]])


def call_range(shelf, wholes, rows):
    version = find_version(shelf, wholes[0])
    start = wholes[1]
    stop = start + wholes[2]
    if stop > len(version.entries):
        raise NoAbsent()
    return [TOLD, keep_part(shelf, version, start, stop)]


def call_join(shelf, wholes, rows):
    how = wholes[2]
    if how > IN_JUST_ONE:
        raise NoRange()
    first = find_version(shelf, wholes[0])
    second = find_version(shelf, wholes[1])
    return [TOLD, keep_joined(shelf, first, second, how)]


def call_add(shelf, wholes, rows):
    rank = checked_value(rows[0])
    value = checked_value(rows[1])
    version = find_of_kind(shelf, wholes[0], (QUEUE,))
    entry = pair_entry(rank, value, version.order)
    end = first_behind(version.entries, entry.place)
    return [TOLD, keep_spliced(shelf, version, end, end, [entry])]


def call_take(shelf, wholes, rows):
    version = find_of_kind(shelf, wholes[0], (QUEUE,))
    if wholes[1] > len(version.entries):
        raise NoAbsent()
    return [TOLD, keep_spliced(shelf, version, 0, wholes[1], [])]


# By a call's number: how many whole numbers it has, how many rows, what does it.
CALLS = {
    1: (2, 0, call_new),
    2: (1, 2, call_put),
    3: (1, 1, call_key),
    4: (1, 1, call_drop),
    5: (1, 1, call_get),
    6: (1, 0, call_count),
    7: (1, 1, call_rank),
    8: (2, 0, call_at),
    9: (3, 0, call_range),
    10: (3, 0, call_join),
    11: (1, 2, call_add),
    12: (2, 0, call_take),
}


# Gives each call as its number, its whole numbers, its rows.
def read_calls(calls):
    read = []
    at = 0
    while at < len(calls):
        call = calls[at]
        wholes_end = at + 1 + CALLS[call][0]
        wholes = calls[at + 1:wholes_end]
        at = wholes_end
        rows = []
        while len(rows) < CALLS[call][1]:
            row_end = at + 1 + calls[at]
            rows.append(calls[at + 1:row_end])
            at = row_end
        read.append((call, wholes, rows))
    return read


def check_wholes(wholes):
    for whole in wholes:
        if whole < 0 or whole > LAST_NUMBER:
            raise NoRange()


# A refused call has changed nothing: each call keeps its version as the last thing it does.
def answer_call(shelf, call, wholes, rows):
    work = CALLS[call][2]
    try:
        check_wholes(wholes)
        return work(shelf, wholes, rows)
    except NoRange:
        return [NO_RANGE]
    except NoAbsent:
        return [NO_ABSENT]
    except NoKind:
        return [NO_KIND]
    except NoFull:
        return [NO_FULL]


def answers(calls):
    shelf = Shelf()
    told = []
    for call in read_calls(calls):
        answer = answer_call(shelf, call[0], call[1], call[2])
        told.append(len(answer))
        told.extend(answer)
    return told
