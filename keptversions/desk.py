"""The desk: reads a list of calls, has each done on a new shelf, and tells the answers."""

from keptversions.comparing import are_same, difference_numbers
from keptversions.forms import entry_numbers, form_numbers, is_form, read_entries
from keptversions.joining import IN_JUST_ONE, keep_joined
from keptversions.refusals import NoAbsent, NoFull, NoKind, NoRange
from keptversions.shelf import MAP, SET, QUEUE, ROW, LAST_ORDER, Shelf, Version
from keptversions.shelf import find_of_kind, find_version, first_behind, first_not_before, forget_version
from keptversions.shelf import is_kind_with_order, keep_part, keep_spliced, keep_version, room_of
from keptversions.shelf import key_entry, pair_entry, row_entry
from keptversions.sorting import keep_sorted
from keptversions.value import checked_value, parts_of, place_of, read_value

LAST_NUMBER = 4294967295

TOLD = 0
NOTHING = 1
FAULT = 2

NO_RANGE = -1
NO_ABSENT = -2
NO_KIND = -3
NO_FULL = -4

X_BEFORE = 0
BOTH_SAME = 1
Y_BEFORE = 2


# Gives where the entry with that place begins and ends: at once, if there is no such entry.
def key_span(version, place):
    start = first_not_before(version.entries, place)
    if start < len(version.entries) and version.entries[start].place == place:
        return (start, start + 1)
    return (start, start)


def keep_with_key(shelf, version, entry):
    span = key_span(version, entry.place)
    return [TOLD, keep_spliced(shelf, version, span[0], span[1], [entry])]


def check_order(order):
    if order > LAST_ORDER:
        raise NoRange()


# Gives where the entries end that are asked for by the first one's number and how many they are.
def end_within(version, start, many):
    stop = start + many
    if stop > len(version.entries):
        raise NoAbsent()
    return stop


def call_new(shelf, wholes, rows):
    kind = wholes[0]
    order = wholes[1]
    if not is_kind_with_order(kind, order):
        raise NoRange()
    return [TOLD, keep_version(shelf, Version(kind, order, [], 1))]


def call_put(shelf, wholes, rows):
    key = checked_value(rows[0])
    value = checked_value(rows[1])
    version = find_of_kind(shelf, wholes[0], (MAP,))
    return keep_with_key(shelf, version, pair_entry(key, value, version.order))


def call_key(shelf, wholes, rows):
    key = checked_value(rows[0])
    version = find_of_kind(shelf, wholes[0], (SET,))
    return keep_with_key(shelf, version, key_entry(key, version.order))


def call_drop(shelf, wholes, rows):
    key = checked_value(rows[0])
    version = find_of_kind(shelf, wholes[0], (MAP, SET))
    span = key_span(version, place_of(key.numbers, version.order))
    if span[0] == span[1]:
        return [NOTHING]
    return [TOLD, keep_spliced(shelf, version, span[0], span[1], [])]


def call_get(shelf, wholes, rows):
    key = checked_value(rows[0])
    version = find_of_kind(shelf, wholes[0], (MAP, SET))
    span = key_span(version, place_of(key.numbers, version.order))
    if span[0] == span[1]:
        return [NOTHING]
    entry = version.entries[span[0]]
    if version.kind == SET:
        return [TOLD] + list(entry.key)
    return [TOLD] + list(entry.value)


def call_count(shelf, wholes, rows):
    return [TOLD, len(find_version(shelf, wholes[0]).entries)]


def call_rank(shelf, wholes, rows):
    key = checked_value(rows[0])
    version = find_of_kind(shelf, wholes[0], (MAP, SET, QUEUE))
    return [TOLD, first_not_before(version.entries, place_of(key.numbers, version.order))]


def call_at(shelf, wholes, rows):
    version = find_version(shelf, wholes[0])
    if wholes[1] >= len(version.entries):
        raise NoAbsent()
    return [TOLD] + entry_numbers(version, version.entries[wholes[1]])


def call_range(shelf, wholes, rows):
    version = find_version(shelf, wholes[0])
    stop = end_within(version, wholes[1], wholes[2])
    return [TOLD, keep_part(shelf, version, wholes[1], stop)]


def call_join(shelf, wholes, rows):
    how = wholes[2]
    if how > IN_JUST_ONE:
        raise NoRange()
    first = find_version(shelf, wholes[0])
    second = find_version(shelf, wholes[1])
    return [TOLD, keep_joined(shelf, first, second, how)]


def call_add(shelf, wholes, rows):
    rank = checked_value(rows[0])
    value = checked_value(rows[1])
    version = find_of_kind(shelf, wholes[0], (QUEUE,))
    entry = pair_entry(rank, value, version.order)
    end = first_behind(version.entries, entry.place)
    return [TOLD, keep_spliced(shelf, version, end, end, [entry])]


def call_take(shelf, wholes, rows):
    version = find_of_kind(shelf, wholes[0], (QUEUE,))
    stop = end_within(version, 0, wholes[1])
    return [TOLD, keep_spliced(shelf, version, 0, stop, [])]


# Keeps a row with the fresh entries in the place of many of its own.
def keep_changed_row(shelf, wholes, many, fresh):
    version = find_of_kind(shelf, wholes[0], (ROW,))
    start = wholes[1]
    stop = end_within(version, start, many)
    return [TOLD, keep_spliced(shelf, version, start, stop, fresh)]


def call_insert(shelf, wholes, rows):
    return keep_changed_row(shelf, wholes, 0, [row_entry(checked_value(rows[0]))])


def call_change(shelf, wholes, rows):
    return keep_changed_row(shelf, wholes, 1, [row_entry(checked_value(rows[0]))])


def call_remove(shelf, wholes, rows):
    return keep_changed_row(shelf, wholes, wholes[2], [])


def call_sorted(shelf, wholes, rows):
    check_order(wholes[1])
    version = find_of_kind(shelf, wholes[0], (ROW,))
    return [TOLD, keep_sorted(shelf, version, wholes[1])]


def call_forget(shelf, wholes, rows):
    forget_version(shelf, wholes[0])
    return [TOLD]


def call_room(shelf, wholes, rows):
    return [TOLD, 3, shelf.used, len(shelf.versions), shelf.following]


def call_kind(shelf, wholes, rows):
    version = find_version(shelf, wholes[0])
    return [TOLD, 2, version.kind, version.order]


def call_form(shelf, wholes, rows):
    return [TOLD] + form_numbers(find_version(shelf, wholes[0]))


def call_of(shelf, wholes, rows):
    form = read_value(rows[0]).numbers
    if not is_form(form):
        return [NOTHING]
    parts = parts_of(form)
    kind = parts[0][1]
    order = parts[1][1]
    entry_rows = parts_of(parts[2])
    entries = read_entries(kind, order, entry_rows)
    if len(entries) < len(entry_rows):
        return [FAULT, len(entries)]
    return [TOLD, keep_version(shelf, Version(kind, order, entries, 1 + room_of(entries)))]


def call_same(shelf, wholes, rows):
    first = find_version(shelf, wholes[0])
    second = find_version(shelf, wholes[1])
    return [TOLD, 1 if are_same(first, second) else 0]


def call_before(shelf, wholes, rows):
    check_order(wholes[0])
    x = place_of(checked_value(rows[0]).numbers, wholes[0])
    y = place_of(checked_value(rows[1]).numbers, wholes[0])
    if x == y:
        return [TOLD, BOTH_SAME]
    return [TOLD, X_BEFORE if x < y else Y_BEFORE]


def call_differ(shelf, wholes, rows):
    first = find_version(shelf, wholes[0])
    second = find_version(shelf, wholes[1])
    if first.kind != second.kind or first.order != second.order or first.kind not in (MAP, SET):
        raise NoKind()
    return [TOLD] + difference_numbers(first, second)


# By a call's number: how many whole numbers it has, how many rows, what does it.
CALLS = {
    1: (2, 0, call_new),
    2: (1, 2, call_put),
    3: (1, 1, call_key),
    4: (1, 1, call_drop),
    5: (1, 1, call_get),
    6: (1, 0, call_count),
    7: (1, 1, call_rank),
    8: (2, 0, call_at),
    9: (3, 0, call_range),
    10: (3, 0, call_join),
    11: (1, 2, call_add),
    12: (2, 0, call_take),
    13: (2, 1, call_insert),
    14: (2, 1, call_change),
    15: (3, 0, call_remove),
    16: (2, 0, call_sorted),
    17: (1, 0, call_forget),
    18: (0, 0, call_room),
    19: (1, 0, call_kind),
    20: (1, 0, call_form),
    21: (0, 1, call_of),
    22: (2, 0, call_same),
    23: (1, 2, call_before),
    24: (2, 0, call_differ),
}


# Gives each call as its number, its whole numbers, its rows.
def read_calls(calls):
    read = []
    at = 0
    while at < len(calls):
        call = calls[at]
        wholes_end = at + 1 + CALLS[call][0]
        wholes = calls[at + 1:wholes_end]
        at = wholes_end
        rows = []
        while len(rows) < CALLS[call][1]:
            row_end = at + 1 + calls[at]
            rows.append(calls[at + 1:row_end])
            at = row_end
        read.append((call, wholes, rows))
    return read


def check_wholes(wholes):
    for whole in wholes:
        if whole < 0 or whole > LAST_NUMBER:
            raise NoRange()


# A refused call has changed nothing: each call keeps its version as the last thing it does.
def answer_call(shelf, call, wholes, rows):
    work = CALLS[call][2]
    try:
        check_wholes(wholes)
        return work(shelf, wholes, rows)
    except NoRange:
        return [NO_RANGE]
    except NoAbsent:
        return [NO_ABSENT]
    except NoKind:
        return [NO_KIND]
    except NoFull:
        return [NO_FULL]


def answers(calls):
    shelf = Shelf()
    told = []
    for call in read_calls(calls):
        answer = answer_call(shelf, call[0], call[1], call[2])
        told.append(len(answer))
        told.extend(answer)
    return told
