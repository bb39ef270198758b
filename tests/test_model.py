"""Every call in mixed rows of calls, held against a plain model of the document's words."""

import random
import unittest
from fractions import Fraction
from functools import cmp_to_key
from math import gcd
from unittest.mock import patch

from tests.helper import (
    LAST_NUMBER, add, asked, at, count, drop, get, join, key, new, part, put, rank, run, take)


def numbers_of(value):
    """The numbers of a value that is ('truth', 0), ('number', n, d), ('text', bytes) or ('list', parts)."""
    if value[0] == "truth":
        return [0, value[1]]
    if value[0] == "number":
        return [1, value[1], value[2]]
    if value[0] == "text":
        return [2, len(value[1])] + list(value[1])
    return [3, len(value[1])] + [each for inner in value[1] for each in numbers_of(inner)]


def depth(value):
    return 1 + max([depth(inner) for inner in value[1]], default=0) if value[0] == "list" else 1


def counts(value):
    if value[0] == "truth":
        return 1
    if value[0] == "number":
        return len(str(value[1]).lstrip("-")) + len(str(value[2]))
    if value[0] == "text":
        return len(value[1]) + 1
    return 1 + sum(counts(inner) for inner in value[1])


def lowest(value):
    if value[0] == "number":
        return value[2] > 0 and gcd(value[1], value[2]) == 1
    return value[0] != "list" or all(lowest(inner) for inner in value[1])


def allowed(value):
    return lowest(value) and depth(value) <= 40 and counts(value) <= 4096


def sign(x, y):
    return (x > y) - (x < y)


def compare(x, y, order):
    """Below 0, if x is before y by the order; 0, if they're the same."""
    if order == 1:
        return -compare(x, y, 0)
    sorts = ["truth", "number", "text", "list"]
    if x[0] != y[0]:
        return sign(sorts.index(x[0]), sorts.index(y[0]))
    if x[0] == "number":
        return sign(Fraction(x[1], x[2]), Fraction(y[1], y[2]))
    if x[0] == "text" and order == 2:
        return sign(len(x[1]), len(y[1])) or sign(x[1], y[1])
    if x[0] != "list":
        return sign(x[1], y[1])
    for one, other in zip(x[1], y[1]):
        if compare(one, other, order) != 0:
            return compare(one, other, order)
    return sign(len(x[1]), len(y[1]))


class Refused(Exception):
    pass


class Model:
    """The state as a list of (kind, order, entries), entries as (key, value)."""

    def __init__(self, most_versions, most_room):
        self.kept = []
        self.most_versions = most_versions
        self.most_room = most_room

    def answer(self, name, *given):
        for each in given:
            if isinstance(each, tuple) and not allowed(each):
                return [-1]
            if isinstance(each, int) and each > LAST_NUMBER:
                return [-1]
        try:
            return getattr(self, name)(*given)
        except Refused as refused:
            return [refused.args[0]]

    def find(self, v, kinds=(0, 1, 2, 3)):
        if v >= len(self.kept):
            raise Refused(-2)
        if self.kept[v][0] not in kinds:
            raise Refused(-3)
        return self.kept[v]

    def room(self):
        return sum(1 + sum(1 + sum(counts(each) for each in entry if each is not None) for entry in entries)
                   for kind, order, entries in self.kept)

    def make(self, kind, order, entries):
        if kind != 3:
            entries = sorted(entries, key=cmp_to_key(lambda x, y: compare(x[0], y[0], order)))
        self.kept.append((kind, order, entries))
        if len(self.kept) > self.most_versions or self.room() > self.most_room:
            self.kept.pop()
            raise Refused(-4)
        return [0, len(self.kept) - 1]

    def new(self, kind, order):
        if (kind, order) not in [(0, 0), (0, 1), (0, 2), (1, 0), (1, 1), (1, 2), (2, 0), (2, 1), (2, 2), (3, 0)]:
            return [-1]
        return self.make(kind, order, [])

    def put(self, v, k, x):
        kind, order, entries = self.find(v, (0,))
        return self.make(kind, order, [entry for entry in entries if entry[0] != k] + [(k, x)])

    def key(self, v, k):
        kind, order, entries = self.find(v, (1,))
        return self.make(kind, order, [entry for entry in entries if entry[0] != k] + [(k, None)])

    def drop(self, v, k):
        kind, order, entries = self.find(v, (0, 1))
        rest = [entry for entry in entries if entry[0] != k]
        return [1] if len(rest) == len(entries) else self.make(kind, order, rest)

    def get(self, v, k):
        kind, order, entries = self.find(v, (0, 1))
        found = [entry for entry in entries if entry[0] == k]
        return [0] + numbers_of(found[0][1 - kind]) if found else [1]

    def count(self, v):
        return [0, len(self.find(v)[2])]

    def rank(self, v, k):
        kind, order, entries = self.find(v, (0, 1, 2))
        return [0, sum(1 for entry in entries if compare(entry[0], k, order) < 0)]

    def at(self, v, i):
        kind, order, entries = self.find(v)
        if i >= len(entries):
            return [-2]
        parts = tuple(each for each in entries[i] if each is not None)
        return [0] + numbers_of(("list", parts) if kind in (0, 2) else parts[0])

    def part(self, v, i, many):
        kind, order, entries = self.find(v)
        return [-2] if i + many > len(entries) else self.make(kind, order, entries[i:i + many])

    def join(self, v, u, how):
        if how > 3:
            return [-1]
        first, second = self.find(v), self.find(u)
        kind, order = first[:2]
        if first[:2] != second[:2] or (kind > 1 and how > 0):
            return [-3]
        if kind > 1:
            return self.make(kind, order, first[2] + second[2])
        one, other = dict(first[2]), dict(second[2])
        entries = {0: {**one, **other}, 1: {k: one[k] for k in one if k in other},
                   2: {k: one[k] for k in one if k not in other},
                   3: {k: x for k, x in {**one, **other}.items() if (k in one) != (k in other)}}[how]
        return self.make(kind, order, list(entries.items()))

    def add(self, v, k, x):
        kind, order, entries = self.find(v, (2,))
        return self.make(kind, order, entries + [(k, x)])

    def take(self, v, many):
        kind, order, entries = self.find(v, (2,))
        return [-2] if many > len(entries) else self.make(kind, order, entries[many:])


WRITTEN = {"new": new, "put": put, "key": key, "drop": drop, "get": get, "count": count, "rank": rank, "at": at,
           "part": part, "join": join, "add": add, "take": take}


class Source:
    """Mixed calls; few values, so that keys come again, and some that may not be handed over."""

    def __init__(self, seed, kinds, kept):
        self.source = random.Random(seed)
        self.kinds = kinds
        self.kept = kept

    def value(self, lists=2):
        sort = self.source.choice(["truth", "number", "number", "text", "text", "list", "list"])
        if sort == "truth":
            return (sort, self.source.randint(0, 1))
        if sort == "number":
            d = self.source.choice([0, 1, 1, 1, 2, 3, 4]) if self.source.random() < 0.1 else 1
            return (sort, self.source.randint(-3, 3), d)
        if sort == "text":
            return (sort, bytes(self.source.choices([97, 98], k=self.source.choice([0, 1, 1, 2, 3]))))
        if lists == 0:
            return ("list", ())
        return (sort, tuple(self.value(lists - 1) for turn in range(self.source.randint(0, 3))))

    def version(self):
        if self.source.random() < 0.03:
            return self.source.choice([len(self.kept) + 5, LAST_NUMBER, LAST_NUMBER + 1])
        return max(0, len(self.kept) - 1 - self.source.choice([0, 0, 0, 1, 2, 3, 5, 8, 12]))

    def small(self):
        return self.source.choice([0, 0, 1, 1, 2, 3, 5, 8])

    def name(self, v):
        """A call that is for the version's kind, or now and then any."""
        if v >= len(self.kept) or self.source.random() < 0.1:
            return self.source.choice(list(WRITTEN))
        names = {0: ["put", "put", "put", "put", "drop", "get"], 1: ["key", "key", "key", "key", "drop", "get"],
                 2: ["add", "add", "add", "take"], 3: []}[self.kept[v][0]]
        return self.source.choice(names * 2 + ["rank", "at", "part", "join", "join", "join", "count", "new"])

    def call(self):
        v = self.version()
        name = self.name(v)
        if name == "new":
            return (name, self.source.choice(self.kinds), self.source.choice([0, 0, 1, 2, 3]))
        if name in ("put", "add"):
            return (name, v, self.value(), self.value())
        if name in ("key", "drop", "get", "rank"):
            return (name, v, self.value())
        if name == "count":
            return (name, v)
        if name in ("at", "take"):
            return (name, v, self.small())
        if name == "part":
            return (name, v, self.small(), self.small())
        return (name, v, self.version(), self.source.choice([0, 0, 1, 2, 3, 4]))


class Mixed(unittest.TestCase):
    def one_row(self, seed, kinds, most_versions, most_room, many):
        model = Model(most_versions, most_room)
        source = Source(seed, kinds, model.kept)
        calls, right = [], []
        for turn in range(many):
            given = source.call() if turn else ("new", kinds[0], seed % 3)
            right.append(model.answer(*given))
            calls.append(WRITTEN[given[0]](
                *[numbers_of(each) if isinstance(each, tuple) else each for each in given[1:]]))
        for v, kept in enumerate(model.kept):
            more = asked(v, len(kept[2]))
            if len(calls) + len(more) <= 1200:
                calls += more
                right += [model.count(v)] + [model.at(v, i) for i in range(len(kept[2]))]
        with patch("keptversions.shelf.MOST_VERSIONS", most_versions), patch("keptversions.shelf.MOST_ROOM", most_room):
            answers = run(*calls)
        for call, answer, told in zip(calls, answers, right):
            self.assertEqual(answer, told, (seed, call))
        return right

    def test_all_kinds(self):
        for seed in range(150):
            self.one_row(seed, [0, 1, 2, 3, 4], 1024, 1000000, 150)

    def test_each_kind(self):
        for kind in range(3):
            for seed in range(100):
                self.one_row(seed, [kind], 1024, 1000000, 150)

    def test_with_little_room(self):
        answers = []
        for seed in range(150):
            answers += self.one_row(seed, [seed % 3], 1024, 100 + 13 * seed, 120)
        self.assertGreater(answers.count([-4]), 1000)

    def test_with_few_versions(self):
        answers = []
        for seed in range(100):
            answers += self.one_row(seed, [0, 1, 2], 10 + seed % 20, 1000000, 120)
        self.assertGreater(answers.count([-4]), 500)

    def test_the_rows_have_all_answers(self):
        answers = []
        for seed in range(20):
            answers += self.one_row(seed, [0, 1, 2], 1024, 1500, 150)
        self.assertEqual({answer[0] for answer in answers}, {-4, -3, -2, -1, 0, 1})


if __name__ == "__main__":
    unittest.main()
