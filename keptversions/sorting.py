"""How a row is sorted."""

from keptversions.shelf import Version, demand_room, keep_version
from keptversions.value import place_of


# Same values are put together first, as a long row may have few that differ.
def sorted_entries(entries, order):
    alike = {}
    for entry in entries:
        alike.setdefault(entry.value, []).append(entry)
    rising = []
    for numbers in sorted(list(alike), key=lambda value: place_of(value, order)):
        rising.extend(alike[numbers])
    return rising


def keep_sorted(shelf, version, order):
    # Asked ahead of the sorting too, so that a refusal costs little however long the row is.
    demand_room(shelf, version.room)
    entries = sorted_entries(version.entries, order)
    return keep_version(shelf, Version(version.kind, version.order, entries, version.room))
