"""How two versions of one kind and one order are joined."""

from keptversions.refusals import NoKind
from keptversions.shelf import QUEUE, ROW, Version, demand_room, first_behind, keep_version, room_of

ALL_OF_BOTH = 0
IN_SECOND = 1
NOT_IN_SECOND = 2
IN_JUST_ONE = 3


def keys_of(entries):
    found = {}
    for entry in entries:
        found[entry.key] = True
    return found


def without_keys(entries, found):
    return [entry for entry in entries if entry.key not in found]


def by_place(entries):
    return sorted(entries, key=lambda entry: entry.place)


def joined_by_keys(first, second, how):
    in_second = keys_of(second)
    if how == IN_SECOND:
        return [entry for entry in first if entry.key in in_second]
    in_first_alone = without_keys(first, in_second)
    if how == NOT_IN_SECOND:
        return in_first_alone
    if how == ALL_OF_BOTH:
        return by_place(in_first_alone + second)
    return by_place(in_first_alone + without_keys(second, keys_of(first)))


# The second's entries of one rank go in together, as a long queue may have few ranks.
def joined_queues(first, second):
    joined = []
    start = 0
    second_start = 0
    while second_start < len(second):
        place = second[second_start].place
        stop = first_behind(first, place)
        second_stop = first_behind(second, place)
        joined.extend(first[start:stop])
        joined.extend(second[second_start:second_stop])
        start = stop
        second_start = second_stop
    joined.extend(first[start:])
    return joined


def keep_joined_by_keys(shelf, first, second, how):
    entries = joined_by_keys(first.entries, second.entries, how)
    return keep_version(shelf, Version(first.kind, first.order, entries, 1 + room_of(entries)))


def keep_joined_whole(shelf, first, second):
    room = first.room + second.room - 1
    # Asked ahead of the joining too, so that a refusal costs little however long the two are.
    demand_room(shelf, room)
    if first.kind == QUEUE:
        entries = joined_queues(first.entries, second.entries)
    else:
        entries = first.entries + second.entries
    return keep_version(shelf, Version(first.kind, first.order, entries, room))


def keep_joined(shelf, first, second, how):
    if first.kind != second.kind or first.order != second.order:
        raise NoKind()
    if first.kind not in (QUEUE, ROW):
        return keep_joined_by_keys(shelf, first, second, how)
    if how != ALL_OF_BOTH:
        raise NoKind()
    return keep_joined_whole(shelf, first, second)
