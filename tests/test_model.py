"""Every call in mixed rows of calls, held against a plain model of the document's words."""

import random
import unittest
from fractions import Fraction
from functools import cmp_to_key
from math import gcd
from unittest.mock import patch

from tests.helper import (
    LAST_NUMBER, add, at, before, change, count, differ, drop, forget, form, get, in_order, insert, join, key, kind_of,
    new, of, part, put, rank, remove, room, run, same, take)

KINDS = [(0, 0), (0, 1), (0, 2), (1, 0), (1, 1), (1, 2), (2, 0), (2, 1), (2, 2), (3, 0)]


def numbers_of(value):
    """The numbers of a value that is ('truth', 0), ('number', n, d), ('text', bytes) or ('list', parts)."""
    if value[0] == "truth":
        return [0, value[1]]
    if value[0] == "number":
        return [1, value[1], value[2]]
    if value[0] == "text":
        return [2, len(value[1])] + list(value[1])
    return [3, len(value[1])] + [each for inner in value[1] for each in numbers_of(inner)]


def depth(value):
    return 1 + max([depth(inner) for inner in value[1]], default=0) if value[0] == "list" else 1


def counts(value):
    if value[0] == "truth":
        return 1
    if value[0] == "number":
        return len(str(value[1]).lstrip("-")) + len(str(value[2]))
    if value[0] == "text":
        return len(value[1]) + 1
    return 1 + sum(counts(inner) for inner in value[1])


def lowest(value):
    if value[0] == "number":
        return value[2] > 0 and gcd(value[1], value[2]) == 1
    return value[0] != "list" or all(lowest(inner) for inner in value[1])


def allowed(value):
    return lowest(value) and depth(value) <= 40 and counts(value) <= 4096


def sign(x, y):
    return (x > y) - (x < y)


def compare(x, y, order):
    """Below 0, if x is before y by the order; 0, if they're the same."""
    if order == 1:
        return -compare(x, y, 0)
    sorts = ["truth", "number", "text", "list"]
    if x[0] != y[0]:
        return sign(sorts.index(x[0]), sorts.index(y[0]))
    if x[0] == "number":
        return sign(Fraction(x[1], x[2]), Fraction(y[1], y[2]))
    if x[0] == "text" and order == 2:
        return sign(len(x[1]), len(y[1])) or sign(x[1], y[1])
    if x[0] != "list":
        return sign(x[1], y[1])
    for one, other in zip(x[1], y[1]):
        if compare(one, other, order) != 0:
            return compare(one, other, order)
    return sign(len(x[1]), len(y[1]))


class Refused(Exception):
    pass


class Model:
    """The state as a dict of (kind, order, entries) by number, entries as (key, value); what isn't there is None."""

    def __init__(self, most_versions, most_room):
        self.kept = {}
        self.following = 0
        self.most_versions = most_versions
        self.most_room = most_room

    def answer(self, name, *given):
        for each in given:
            if isinstance(each, tuple) and not (lowest(each) if name == "of" else allowed(each)):
                return [-1]
            if isinstance(each, int) and each > LAST_NUMBER:
                return [-1]
        try:
            return getattr(self, name)(*given)
        except Refused as refused:
            return [refused.args[0]]

    def find(self, v, kinds=(0, 1, 2, 3)):
        if v not in self.kept:
            raise Refused(-2)
        if self.kept[v][0] not in kinds:
            raise Refused(-3)
        return self.kept[v]

    def used(self):
        return sum(1 + sum(1 + sum(counts(each) for each in entry if each is not None) for entry in entries)
                   for kind, order, entries in self.kept.values())

    def make(self, kind, order, entries):
        if kind != 3:
            entries = sorted(entries, key=cmp_to_key(lambda x, y: compare(x[0], y[0], order)))
        self.kept[self.following] = (kind, order, entries)
        if len(self.kept) > self.most_versions or self.used() > self.most_room:
            self.kept.pop(self.following)
            raise Refused(-4)
        self.following += 1
        return [0, self.following - 1]

    def new(self, kind, order):
        return self.make(kind, order, []) if (kind, order) in KINDS else [-1]

    def put(self, v, k, x):
        kind, order, entries = self.find(v, (0,))
        return self.make(kind, order, [entry for entry in entries if entry[0] != k] + [(k, x)])

    def key(self, v, k):
        kind, order, entries = self.find(v, (1,))
        return self.make(kind, order, [entry for entry in entries if entry[0] != k] + [(k, None)])

    def drop(self, v, k):
        kind, order, entries = self.find(v, (0, 1))
        rest = [entry for entry in entries if entry[0] != k]
        return [1] if len(rest) == len(entries) else self.make(kind, order, rest)

    def get(self, v, k):
        kind, order, entries = self.find(v, (0, 1))
        found = [entry for entry in entries if entry[0] == k]
        return [0] + numbers_of(found[0][1 - kind]) if found else [1]

    def count(self, v):
        return [0, len(self.find(v)[2])]

    def rank(self, v, k):
        kind, order, entries = self.find(v, (0, 1, 2))
        return [0, sum(1 for entry in entries if compare(entry[0], k, order) < 0)]

    def entry(self, kind, entry):
        parts = tuple(each for each in entry if each is not None)
        return ("list", parts) if kind in (0, 2) else parts[0]

    def at(self, v, i):
        kind, order, entries = self.find(v)
        return [-2] if i >= len(entries) else [0] + numbers_of(self.entry(kind, entries[i]))

    def part(self, v, i, many):
        kind, order, entries = self.find(v)
        return [-2] if i + many > len(entries) else self.make(kind, order, entries[i:i + many])

    def join(self, v, u, how):
        if how > 3:
            return [-1]
        first, second = self.find(v), self.find(u)
        kind, order = first[:2]
        if first[:2] != second[:2] or (kind > 1 and how > 0):
            return [-3]
        if kind > 1:
            return self.make(kind, order, first[2] + second[2])
        one, other = dict(first[2]), dict(second[2])
        entries = {0: {**one, **other}, 1: {k: one[k] for k in one if k in other},
                   2: {k: one[k] for k in one if k not in other},
                   3: {k: x for k, x in {**one, **other}.items() if (k in one) != (k in other)}}[how]
        return self.make(kind, order, list(entries.items()))

    def add(self, v, k, x):
        kind, order, entries = self.find(v, (2,))
        return self.make(kind, order, entries + [(k, x)])

    def take(self, v, many):
        kind, order, entries = self.find(v, (2,))
        return [-2] if many > len(entries) else self.make(kind, order, entries[many:])

    def insert(self, v, i, x):
        entries = self.find(v, (3,))[2]
        return [-2] if i > len(entries) else self.make(3, 0, entries[:i] + [(None, x)] + entries[i:])

    def change(self, v, i, x):
        entries = self.find(v, (3,))[2]
        return [-2] if i >= len(entries) else self.make(3, 0, entries[:i] + [(None, x)] + entries[i + 1:])

    def remove(self, v, i, many):
        entries = self.find(v, (3,))[2]
        return [-2] if i + many > len(entries) else self.make(3, 0, entries[:i] + entries[i + many:])

    def in_order(self, v, order):
        if order > 2:
            return [-1]
        entries = self.find(v, (3,))[2]
        return self.make(3, 0, sorted(entries, key=cmp_to_key(lambda x, y: compare(x[1], y[1], order))))

    def forget(self, v):
        self.find(v)
        self.kept.pop(v)
        return [0]

    def room(self):
        return [0, 3, self.used(), len(self.kept), self.following]

    def kind_of(self, v):
        return [0, 2, *self.find(v)[:2]]

    def form_of(self, v):
        kind, order, entries = self.find(v)
        told = tuple(self.entry(kind, entry) for entry in entries)
        return ("list", (("number", kind, 1), ("number", order, 1), ("list", told)))

    def form(self, v):
        return [0] + numbers_of(self.form_of(v))

    def of(self, value):
        if value[0] != "list" or [each[0] for each in value[1]] != ["number", "number", "list"]:
            return [1]
        kind, order = [Fraction(each[1], each[2]) for each in value[1][:2]]
        if (kind, order) not in KINDS:
            return [1]
        entries = []
        for i, entry in enumerate(value[1][2][1]):
            parts = entry[1] if kind in (0, 2) else (entry,)
            if kind in (0, 2) and (entry[0] != "list" or len(parts) != 2):
                return [2, i]
            if not all(allowed(each) for each in parts):
                return [2, i]
            if i > 0 and kind < 3 and compare(entries[-1][0], parts[0], order) > (0 if kind == 2 else -1):
                return [2, i]
            entries.append((parts[0], parts[1] if kind in (0, 2) else None) if kind < 3 else (None, parts[0]))
        return self.make(int(kind), int(order), entries)

    def same(self, v, u):
        return [0, 1 if self.find(v) == self.find(u) else 0]

    def before(self, order, x, y):
        return [-1] if order > 2 else [0, 1 + compare(x, y, order)]

    def differ(self, v, u):
        first, second = self.find(v), self.find(u)
        if first[:2] != second[:2] or first[0] > 1:
            return [-3]
        one, other = dict(first[2]), dict(second[2])
        keys = [k for k in {**one, **other} if k not in one or k not in other or one[k] != other[k]]
        keys = sorted(keys, key=cmp_to_key(lambda x, y: compare(x, y, first[1])))
        where = [0 if k not in other else 1 if k not in one else 2 for k in keys]
        return [0] + numbers_of(("list", tuple(("list", (("number", n, 1), k)) for n, k in zip(where, keys))))


WRITTEN = {"new": new, "put": put, "key": key, "drop": drop, "get": get, "count": count, "rank": rank, "at": at,
           "part": part, "join": join, "add": add, "take": take, "insert": insert, "change": change, "remove": remove,
           "in_order": in_order, "forget": forget, "room": room, "kind_of": kind_of, "form": form, "of": of,
           "same": same, "before": before, "differ": differ}


class Source:
    """Mixed calls; few values, so that keys come again, and some that may not be handed over."""

    def __init__(self, seed, kinds, model):
        self.source = random.Random(seed)
        self.kinds = kinds
        self.model = model

    def value(self, lists=2):
        sort = self.source.choice(["truth", "number", "number", "text", "text", "list", "list"])
        if sort == "truth":
            return (sort, self.source.randint(0, 1))
        if sort == "number":
            d = self.source.choice([0, 1, 1, 1, 2, 3, 4]) if self.source.random() < 0.1 else 1
            return (sort, self.source.randint(-3, 3), d)
        if sort == "text":
            return (sort, bytes(self.source.choices([97, 98], k=self.source.choice([0, 1, 1, 2, 3]))))
        if lists == 0:
            return ("list", ())
        return (sort, tuple(self.value(lists - 1) for turn in range(self.source.randint(0, 3))))

    def version(self):
        if self.source.random() < 0.03:
            return self.source.choice([self.model.following + 5, LAST_NUMBER, LAST_NUMBER + 1])
        return max(0, self.model.following - 1 - self.source.choice([0, 0, 0, 1, 2, 3, 5, 8, 12]))

    def small(self):
        return self.source.choice([0, 0, 1, 1, 2, 3, 5, 8])

    def name(self, v):
        """A call that is for the version's kind, or now and then any."""
        if v not in self.model.kept or self.source.random() < 0.1:
            return self.source.choice(list(WRITTEN))
        names = {0: ["put", "put", "put", "put", "drop", "get", "differ"],
                 1: ["key", "key", "key", "key", "drop", "get", "differ"],
                 2: ["add", "add", "add", "take"],
                 3: ["insert", "insert", "insert", "insert", "change", "remove", "in_order"]}[self.model.kept[v][0]]
        return self.source.choice(names * 3 + ["rank", "at", "part", "join", "join", "join", "count", "new", "forget",
                                               "room", "kind_of", "form", "of", "of", "same", "before"])

    def form(self, v):
        """A version's form; or one in which something is otherwise; or any value."""
        if v not in self.model.kept or self.source.random() < 0.05:
            return self.value()
        parts = list(self.model.form_of(v)[1])
        chance = self.source.random()
        if chance < 0.3:
            entries = list(parts[2][1])
            entries.insert(self.source.randint(0, len(entries)), self.source.choice(entries + [self.value()]))
            parts[2] = ("list", tuple(entries))
        elif chance < 0.5:
            parts[2] = ("list", tuple(self.source.sample(parts[2][1], self.source.randint(0, len(parts[2][1])))))
        elif chance < 0.6:
            parts[self.source.randint(0, 1)] = ("number", self.source.randint(-1, 4), 1)
        elif chance < 0.65:
            parts[self.source.randint(0, 2)] = self.value()
        return ("list", tuple(parts))

    def call(self):
        v = self.version()
        name = self.name(v)
        order = self.source.choice([0, 0, 1, 1, 2, 2, 3])
        given = {"new": (self.source.choice(self.kinds), order), "room": (), "of": (self.form(v),),
                 "in_order": (v, order), "before": (order, self.value(), self.value())}
        if name in given:
            return (name,) + given[name]
        if name in ("put", "add"):
            return (name, v, self.value(), self.value())
        if name in ("key", "drop", "get", "rank"):
            return (name, v, self.value())
        if name in ("count", "forget", "kind_of", "form"):
            return (name, v)
        if name in ("at", "take"):
            return (name, v, self.small())
        if name in ("part", "remove"):
            return (name, v, self.small(), self.small())
        if name in ("insert", "change"):
            return (name, v, self.small(), self.value())
        if name in ("same", "differ"):
            return (name, v, self.version())
        return (name, v, self.version(), self.source.choice([0, 0, 1, 2, 3, 4]))


class Mixed(unittest.TestCase):
    def one_row(self, seed, kinds, most_versions, most_room, many):
        model = Model(most_versions, most_room)
        source = Source(seed, kinds, model)
        calls, right = [], []
        for turn in range(many):
            given = source.call() if turn else ("new", kinds[0], seed % 3 if kinds[0] < 3 else 0)
            written = WRITTEN[given[0]](*[numbers_of(each) if isinstance(each, tuple) else each for each in given[1:]])
            if sum(map(len, calls)) + len(written) <= 15000:
                right.append(model.answer(*given))
                calls.append(written)
        for v in range(model.following):
            calls.append(form(v))
            right.append(model.answer("form", v))
        with patch("keptversions.shelf.MOST_VERSIONS", most_versions), patch("keptversions.shelf.MOST_ROOM", most_room):
            answers = run(*calls)
        for call, answer, told in zip(calls, answers, right):
            self.assertEqual(answer, told, (seed, call))
        return list(zip(calls, right))

    def test_all_kinds(self):
        for seed in range(150):
            self.one_row(seed, [0, 1, 2, 3, 4], 1024, 1000000, 150)

    def test_each_kind(self):
        for kind in range(4):
            for seed in range(100):
                self.one_row(seed, [kind], 1024, 1000000, 150)

    def test_with_little_room(self):
        told = []
        for seed in range(150):
            told += self.one_row(seed, [seed % 4], 1024, 60 + 5 * seed, 120)
        self.assertGreater([answer for call, answer in told].count([-4]), 1000)

    def test_with_few_versions(self):
        told = []
        for seed in range(100):
            told += self.one_row(seed, [0, 1, 2, 3], 5 + seed % 15, 1000000, 120)
        self.assertGreater([answer for call, answer in told].count([-4]), 500)

    def test_the_rows_have_all_answers(self):
        """Each call is answered in each way that the document names for it."""
        told = {}
        for seed in range(400):
            for call, answer in self.one_row(seed, [seed % 4, 0, 1, 2, 3], 1024, 600, 150):
                told.setdefault(call[0], set()).add(answer[0])
        making = {0, -1, -2, -3, -4}
        right = {1: {0, -1, -4}, 2: making, 3: making, 4: making | {1}, 5: {0, 1, -1, -2, -3}, 6: {0, -1, -2},
                 7: {0, -1, -2, -3}, 8: {0, -1, -2}, 9: {0, -1, -2, -4}, 10: making, 11: making, 12: making,
                 13: making, 14: making, 15: making, 16: making, 17: {0, -1, -2}, 18: {0}, 19: {0, -1, -2},
                 20: {0, -1, -2}, 21: {0, 1, 2, -1, -4}, 22: {0, -1, -2}, 23: {0, -1}, 24: {0, -1, -2, -3}}
        self.assertEqual(told, right)


if __name__ == "__main__":
    unittest.main()
