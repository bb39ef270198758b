"""Promises 2, 3 and 5: rows as they stand, changed in the midst, sorted."""

import itertools
import random
import unittest

from tests.helper import (
    FALSE, NO_ABSENT, ORDERS, ROWS, TRUE, asked, built, change, count, form, form_value, in_order, insert, kind_of,
    listed, new, number, remove, room, run, same, text, told_entries)
from tests.test_orders import PLAIN, RISING

A, B, C, D, X = text("a"), text("b"), text("c"), text("d"), text("x")
LONG = listed(text("long"), number(-7, 3))


class Rows(unittest.TestCase):
    def check(self, before, call, after):
        """A call on version v makes v + 1 with the values told, and v stays."""
        calls, v = built(ROWS, 0, before)
        asking = [kind_of(v + 1)] + asked(v + 1, len(after)) + asked(v, len(before))
        told = run(*calls, call(v), *asking)[len(calls):]
        self.assertEqual(told, [[0, v + 1], [0, 2, ROWS, 0]] + told_entries(after) + told_entries(before))

    def refused(self, before, call):
        calls, v = built(ROWS, 0, before)
        told = run(*calls, room(), call(v), room(), *asked(v, len(before)), new(ROWS))[len(calls):]
        self.assertEqual(told[1], NO_ABSENT)
        self.assertEqual(told[0], told[2])
        self.assertEqual(told[3:], told_entries(before) + [[0, v + 1]])

    def test_insert_at_every_place(self):
        for many in range(5):
            values = [A, B, A, C][:many]
            for i in range(many + 1):
                for value in (X, A, LONG, FALSE):
                    self.check(values, lambda v: insert(v, i, value), values[:i] + [value] + values[i:])

    def test_insert_above_the_count(self):
        for many, beyond in itertools.product(range(4), (1, 2, 4294967295 - 4)):
            self.refused([A, B, C][:many], lambda v: insert(v, many + beyond, X))

    def test_change_at_every_place(self):
        for many in range(1, 5):
            values = [A, B, A, C][:many]
            for i in range(many):
                for value in (X, A, LONG, FALSE):
                    self.check(values, lambda v: change(v, i, value), values[:i] + [value] + values[i + 1:])

    def test_change_behind_the_last(self):
        for many, beyond in itertools.product(range(4), (0, 1, 4294967295 - 4)):
            self.refused([A, B, C][:many], lambda v: change(v, many + beyond, X))

    def test_remove_of_every_part(self):
        values = [A, B, A, LONG, C]
        for i, many in itertools.product(range(8), repeat=2):
            if i + many <= 5:
                self.check(values, lambda v: remove(v, i, many), values[:i] + values[i + many:])
            else:
                self.refused(values, lambda v: remove(v, i, many))

    def test_remove_of_none(self):
        for i in range(4):
            self.check([A, B, C], lambda v: remove(v, i, 0), [A, B, C])
        self.refused([A, B, C], lambda v: remove(v, 4, 0))
        self.refused([], lambda v: remove(v, 1, 0))
        self.check([], lambda v: remove(v, 0, 0), [])

    def test_remove_far_beyond(self):
        for i, many in ((0, 4294967295), (4294967295, 0), (4294967295, 4294967295), (4, 0), (3, 1)):
            self.refused([A, B, C], lambda v: remove(v, i, many))

    def test_values_of_every_sort_as_they_stand(self):
        mixed = list(PLAIN)
        random.Random(3).shuffle(mixed)
        calls, v = built(ROWS, 0, mixed)
        told = run(*calls, *asked(v, len(mixed)), form(v))[len(calls):]
        self.assertEqual(told, told_entries(mixed) + [[0] + form_value(ROWS, 0, mixed)])

    def test_every_version_of_a_long_way_stays(self):
        source = random.Random(11)
        calls, kept = [new(ROWS)], [[]]
        for turn in range(120):
            v = source.choice([len(kept) - 1, source.randrange(len(kept))])
            values, value = kept[v], number(turn)
            i = source.randint(0, len(values))
            how = source.choice(["insert", "insert", "change", "remove"])
            if how == "insert":
                calls.append(insert(v, i, value))
                kept.append(values[:i] + [value] + values[i:])
            elif how == "change" and i < len(values):
                calls.append(change(v, i, value))
                kept.append(values[:i] + [value] + values[i + 1:])
            else:
                many = min(len(values) - i, 2)
                calls.append(remove(v, i, many))
                kept.append(values[:i] + values[i + many:])
        told = run(*calls, *[form(v) for v in range(len(kept))])
        self.assertEqual(told, [[0, v] for v in range(len(kept))]
                         + [[0] + form_value(ROWS, 0, values) for values in kept])


class Sorted(unittest.TestCase):
    def check(self, values, order, rising):
        calls, v = built(ROWS, 0, values)
        asking = [kind_of(v + 1), form(v + 1), form(v), count(v + 1)]
        told = run(*calls, in_order(v, order), *asking)[len(calls):]
        self.assertEqual(told, [[0, v + 1], [0, 2, ROWS, 0], [0] + form_value(ROWS, 0, rising),
                                [0] + form_value(ROWS, 0, values), [0, len(values)]])

    def test_of_an_empty_row_and_of_one_value(self):
        for order in ORDERS:
            self.check([], order, [])
            for value in (A, LONG, TRUE, number(-3)):
                self.check([value], order, [value])

    def test_of_values_of_all_sorts(self):
        for order in ORDERS:
            for seed in range(5):
                mixed = list(PLAIN)
                random.Random(seed).shuffle(mixed)
                self.check(mixed, order, RISING[order])

    def test_already_in_order_and_turned_round(self):
        for order in ORDERS:
            self.check(RISING[order], order, RISING[order])
            self.check(RISING[order][::-1], order, RISING[order])

    def test_of_same_ones(self):
        for order in ORDERS:
            self.check([A] * 5, order, [A] * 5)
            rising = [B, B, A, A, A] if order == 1 else [A, A, A, B, B]
            for mixed in set(itertools.permutations(["a", "a", "a", "b", "b"])):
                self.check([text(each) for each in mixed], order, rising)

    def test_by_order_2_shorter_texts_are_before(self):
        mixed = [text("aa"), text("b"), listed(text("aa")), text(""), listed(text("b"))]
        self.check(mixed, 2, [text(""), text("b"), text("aa"), listed(text("b")), listed(text("aa"))])
        self.check(mixed, 0, [text(""), text("aa"), text("b"), listed(text("aa")), listed(text("b"))])
        self.check(mixed, 1, [listed(text("b")), listed(text("aa")), text("b"), text("aa"), text("")])

    def test_numbers_by_value(self):
        mixed = [number(10), number(9), number(-10), number(19, 2), number(-9), number(1, 3), number(1, 2)]
        rising = [number(-10), number(-9), number(1, 3), number(1, 2), number(9), number(19, 2), number(10)]
        for order in ORDERS:
            self.check(mixed, order, rising[::-1] if order == 1 else rising)

    def test_a_sorted_row_can_be_changed_and_sorted_on(self):
        calls, v = built(ROWS, 0, [C, A, B])
        calls += [in_order(v, 0), insert(v + 1, 0, D), in_order(v + 2, 1), in_order(v + 3, 0), change(v + 4, 0, X)]
        told = run(*calls, form(v), form(v + 1), form(v + 2), form(v + 3), form(v + 4), form(v + 5))[len(calls):]
        rows = ([C, A, B], [A, B, C], [D, A, B, C], [D, C, B, A], [A, B, C, D], [X, B, C, D])
        self.assertEqual(told, [[0] + form_value(ROWS, 0, values) for values in rows])

    def test_sorted_from_any_way_is_the_same(self):
        for order in ORDERS:
            calls, v = built(ROWS, 0, [C, A, B, A])
            more, u = built(ROWS, 0, [A, A, B, C], v + 1)
            calls += more + [in_order(v, order), in_order(u, order), in_order(u + 1, order)]
            told = run(*calls, same(u + 1, u + 2), same(u + 1, u + 3), same(v, u + 1))[len(calls):]
            self.assertEqual(told, [[0, 1], [0, 1], [0, 0]])


if __name__ == "__main__":
    unittest.main()
