"""A version's form: how it is told, and how a version's entries are read from it."""

from keptversions.shelf import MAP, SET, QUEUE, is_kind_with_order, key_entry, pair_entry, row_entry
from keptversions.value import NUMBER, LIST, may_be_handed_over, parts_of, read_value


def entry_numbers(version, entry):
    if version.kind in (MAP, QUEUE):
        return [LIST, 2] + list(entry.key) + list(entry.value)
    return list(entry.key) + list(entry.value)


def form_numbers(version):
    told = [LIST, 3, NUMBER, version.kind, 1, NUMBER, version.order, 1, LIST, len(version.entries)]
    for entry in version.entries:
        told.extend(entry_numbers(version, entry))
    return told


def is_list_of(numbers, many):
    return numbers[0] == LIST and numbers[1] == many


def is_whole(numbers):
    return numbers[0] == NUMBER and numbers[2] == 1


def is_form(numbers):
    if not is_list_of(numbers, 3):
        return False
    parts = parts_of(numbers)
    if not is_whole(parts[0]) or not is_whole(parts[1]) or parts[2][0] != LIST:
        return False
    return is_kind_with_order(parts[0][1], parts[1][1])


# Gives None, if it is not an entry of that kind.
def read_entry(kind, order, numbers):
    parts = [numbers]
    if kind in (MAP, QUEUE):
        if not is_list_of(numbers, 2):
            return None
        parts = parts_of(numbers)
    values = [read_value(part) for part in parts]
    if not all([may_be_handed_over(value) for value in values]):
        return None
    if kind in (MAP, QUEUE):
        return pair_entry(values[0], values[1], order)
    if kind == SET:
        return key_entry(values[0], order)
    return row_entry(values[0])


# A row's entries all have the same place, so there any may stand behind any.
def may_stand_behind(kind, entry, former):
    if kind in (MAP, SET):
        return former.place < entry.place
    return former.place <= entry.place


# Gives the entries ahead of the first that is at fault: all of them, if none is.
def read_entries(kind, order, rows):
    entries = []
    for numbers in rows:
        entry = read_entry(kind, order, numbers)
        if entry is None:
            return entries
        if len(entries) > 0 and not may_stand_behind(kind, entry, entries[-1]):
            return entries
        entries.append(entry)
    return entries
