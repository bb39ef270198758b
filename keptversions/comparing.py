"""How versions are compared: whether they are the same, and in which keys they differ."""

from keptversions.value import LIST, NUMBER

IN_FIRST_ALONE = 0
IN_SECOND_ALONE = 1
IN_BOTH = 2


class Difference:
    def __init__(self, where, entry):
        self.where = where
        self.entry = entry


# Entries are the same whose keys and values are: a set's values, and a row's keys, are all empty.
def have_same_entries(first, second):
    if len(first) != len(second):
        return False
    for one, other in zip(first, second):
        if one.value != other.value or one.key != other.key:
            return False
    return True


def are_same(first, second):
    if first.kind != second.kind or first.order != second.order:
        return False
    return have_same_entries(first.entries, second.entries)


def values_by_key(entries):
    found = {}
    for entry in entries:
        found[entry.key] = entry.value
    return found


# Both are of one order, so that a place tells the same of either's entries.
def differences(first, second):
    in_first = values_by_key(first)
    in_second = values_by_key(second)
    found = []
    for entry in first:
        if entry.key not in in_second:
            found.append(Difference(IN_FIRST_ALONE, entry))
        elif in_second[entry.key] != entry.value:
            found.append(Difference(IN_BOTH, entry))
    for entry in second:
        if entry.key not in in_first:
            found.append(Difference(IN_SECOND_ALONE, entry))
    return sorted(found, key=lambda difference: difference.entry.place)


def difference_numbers(first, second):
    found = differences(first.entries, second.entries)
    told = [LIST, len(found)]
    for difference in found:
        told.extend([LIST, 2, NUMBER, difference.where, 1])
        told.extend(difference.entry.key)
    return told
