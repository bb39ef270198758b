"""The shelf: the versions that are kept, their entries, and how much room they take."""

from keptversions.refusals import NoAbsent, NoFull, NoKind
from keptversions.value import place_of

MAP = 0
SET = 1
QUEUE = 2
ROW = 3

LAST_ORDER = 2

MOST_VERSIONS = 1024
MOST_ROOM = 1000000
NUMBERS_END = 1000000


# Versions share entries, so an entry is never changed once it is made. A set's has no value, a
# row's no key: these are empty tuples. Its place is the key's (the rank's), by the version's order.
class Entry:
    def __init__(self, key, value, place, room):
        self.key = key
        self.value = value
        self.place = place
        self.room = room


# A version, and its list of entries, is never changed once it is made.
class Version:
    def __init__(self, kind, order, entries, room):
        self.kind = kind
        self.order = order
        self.entries = entries
        self.room = room


class Shelf:
    def __init__(self):
        self.versions = {}
        self.used = 0
        self.following = 0


def is_kind_with_order(kind, order):
    if kind == ROW:
        return order == 0
    return MAP <= kind <= QUEUE and 0 <= order <= LAST_ORDER


def pair_entry(key, value, order):
    return Entry(key.numbers, value.numbers, place_of(key.numbers, order), 1 + key.weight + value.weight)


def key_entry(key, order):
    return Entry(key.numbers, (), place_of(key.numbers, order), 1 + key.weight)


def row_entry(value):
    return Entry((), value.numbers, (), 1 + value.weight)


def room_of(entries):
    return sum([entry.room for entry in entries])


# Only the lesser part of a long version is gone through.
def room_between(version, start, stop):
    entries = version.entries
    if 2 * (stop - start) <= len(entries):
        return room_of(entries[start:stop])
    return version.room - 1 - room_of(entries[:start]) - room_of(entries[stop:])


def find_version(shelf, number):
    if number not in shelf.versions:
        raise NoAbsent()
    return shelf.versions[number]


def find_of_kind(shelf, number, kinds):
    version = find_version(shelf, number)
    if version.kind not in kinds:
        raise NoKind()
    return version


def demand_room(shelf, room):
    if len(shelf.versions) >= MOST_VERSIONS or shelf.following >= NUMBERS_END:
        raise NoFull()
    if shelf.used + room > MOST_ROOM:
        raise NoFull()


def keep_version(shelf, version):
    demand_room(shelf, version.room)
    number = shelf.following
    shelf.versions[number] = version
    shelf.used += version.room
    shelf.following += 1
    return number


# Its number is not given again, as those that follow only rise.
def forget_version(shelf, number):
    shelf.used -= find_version(shelf, number).room
    shelf.versions.pop(number)


# Keeps a version with the fresh entries in the place of those from start to before stop.
def keep_spliced(shelf, version, start, stop, fresh):
    room = version.room - room_between(version, start, stop) + room_of(fresh)
    # Asked ahead of the copying too, so that a refusal costs little however long the version is.
    demand_room(shelf, room)
    entries = version.entries[:start] + fresh + version.entries[stop:]
    return keep_version(shelf, Version(version.kind, version.order, entries, room))


def keep_part(shelf, version, start, stop):
    room = 1 + room_between(version, start, stop)
    return keep_version(shelf, Version(version.kind, version.order, version.entries[start:stop], room))


# How many entries are before that place.
def first_not_before(entries, place):
    low = 0
    high = len(entries)
    while low < high:
        middle = (low + high) // 2
        if entries[middle].place < place:
            low = middle + 1
        else:
            high = middle
    return low


# How many entries are before that place or at it.
def first_behind(entries, place):
    low = 0
    high = len(entries)
    while low < high:
        middle = (low + high) // 2
        if place < entries[middle].place:
            high = middle
        else:
            low = middle + 1
    return low
