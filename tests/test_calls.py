"""Promises 2, 4, 5 and 6: each call at ordinary inputs and at its edges."""

import itertools
import unittest

from tests.helper import (
    FALSE, KINDS, MAP, NOTHING, NO_ABSENT, NO_KIND, ORDERS, QUEUE, ROWS, SET, TRUE, add, asked, at, built, count, drop,
    get, join, key, kind_of, last, listed, new, number, part, put, rank, run, take, text, told_entries)

A, B, C, D, E = text("a"), text("b"), text("c"), text("d"), text("e")
ONE, TWO, THREE, FOUR = number(1), number(2), number(3), number(4)


def turned(rising, order):
    return rising[::-1] if order == 1 else rising


def entries_after(calls, v, many):
    return run(*calls, *asked(v, many))[len(calls):]


class New(unittest.TestCase):
    def test_numbers_rise_and_each_is_empty(self):
        told = run(new(MAP), new(SET, 2), new(QUEUE, 1), new(ROWS), count(0), count(1), count(2), count(3), at(3, 0))
        self.assertEqual(told, [[0, 0], [0, 1], [0, 2], [0, 3], [0, 0], [0, 0], [0, 0], [0, 0], NO_ABSENT])

    def test_each_kind_and_order_is_the_one_asked_for(self):
        calls = [new(kind, order) for kind, order in KINDS]
        for v, u in itertools.product(range(len(KINDS)), repeat=2):
            self.assertEqual(last(*calls, join(v, u, 0)), [0, len(KINDS)] if v == u else NO_KIND)


class Maps(unittest.TestCase):
    def test_put_and_got(self):
        for order in ORDERS:
            calls, v = built(MAP, order, [(B, ONE), (A, TWO), (C, THREE)])
            pairs = turned([listed(A, TWO), listed(B, ONE), listed(C, THREE)], order)
            self.assertEqual(entries_after(calls, v, 3), told_entries(pairs))
            self.assertEqual(run(*calls, get(v, A), get(v, B), get(v, C), get(v, D))[-4:],
                             [[0] + TWO, [0] + ONE, [0] + THREE, NOTHING])

    def test_put_in_the_place_of_the_entry(self):
        for order in ORDERS:
            for here in (A, B, C):
                calls, v = built(MAP, order, [(A, ONE), (B, ONE), (C, ONE)])
                calls.append(put(v, here, TWO))
                pairs = turned([listed(each, TWO if each == here else ONE) for each in (A, B, C)], order)
                self.assertEqual(entries_after(calls, v + 1, 3), told_entries(pairs))
                self.assertEqual(last(*calls, get(v + 1, here)), [0] + TWO)
                self.assertEqual(last(*calls, get(v, here)), [0] + ONE)

    def test_put_what_is_there_makes_a_version_too(self):
        self.assertEqual(run(new(MAP), put(0, A, ONE), put(1, A, ONE), count(2)), [[0, 0], [0, 1], [0, 2], [0, 1]])

    def test_dropped_and_gone(self):
        for order in ORDERS:
            for here in (A, B, C):
                calls, v = built(MAP, order, [(A, ONE), (B, TWO), (C, THREE)])
                calls.append(drop(v, here))
                whole = turned([listed(A, ONE), listed(B, TWO), listed(C, THREE)], order)
                rest = [pair for pair in whole if pair[2:5] != here]
                self.assertEqual(entries_after(calls, v + 1, 2), told_entries(rest))
                self.assertEqual(run(*calls, get(v + 1, here), drop(v + 1, here))[-2:], [NOTHING, NOTHING])

    def test_drop_of_what_is_not_there_makes_no_version(self):
        told = run(new(MAP), drop(0, A), put(0, A, ONE), drop(1, B), drop(1, A), count(2))
        self.assertEqual(told, [[0, 0], NOTHING, [0, 1], NOTHING, [0, 2], [0, 0]])

    def test_keys_of_every_sort(self):
        keys = [FALSE, number(-1, 2), text(""), listed(), listed(listed(TRUE))]
        calls, v = built(MAP, 0, [(each, each) for each in keys])
        self.assertEqual(run(*calls, *[get(v, each) for each in keys])[len(calls):], [[0] + each for each in keys])

    def test_get_tells_the_value_not_the_key(self):
        value = listed(A, listed(number(-5, 3)), TRUE)
        self.assertEqual(last(new(MAP), put(0, A, value), get(1, A)), [0] + value)


class Sets(unittest.TestCase):
    def test_keys_rise_none_twice(self):
        for order in ORDERS:
            for mixed in itertools.permutations([A, B, C]):
                calls, v = built(SET, order, list(mixed) + [B, A])
                self.assertEqual(entries_after(calls, v, 3), told_entries(turned([A, B, C], order)))

    def test_key_that_is_there_makes_a_version_too(self):
        self.assertEqual(run(new(SET), key(0, A), key(1, A), count(2)), [[0, 0], [0, 1], [0, 2], [0, 1]])

    def test_get_tells_the_key(self):
        value = listed(A, TRUE)
        self.assertEqual(run(new(SET), key(0, value), get(1, value), get(1, A), get(0, value))[2:],
                         [[0] + value, NOTHING, NOTHING])

    def test_dropped_and_gone(self):
        for order in ORDERS:
            for here in (A, B, C):
                calls, v = built(SET, order, [A, B, C])
                calls.append(drop(v, here))
                rest = [each for each in turned([A, B, C], order) if each != here]
                self.assertEqual(entries_after(calls, v + 1, 2), told_entries(rest))
                self.assertEqual(run(*calls, get(v + 1, here), drop(v + 1, here))[-2:], [NOTHING, NOTHING])

    def test_drop_of_what_is_not_there_makes_no_version(self):
        self.assertEqual(run(new(SET), drop(0, A), new(SET)), [[0, 0], NOTHING, [0, 1]])


class Queues(unittest.TestCase):
    def test_behind_all_of_the_same_rank(self):
        for order in ORDERS:
            given = [(TWO, A), (ONE, B), (TWO, C), (ONE, D), (THREE, E), (TWO, E), (ONE, A), (ONE, B)]
            calls, v = built(QUEUE, order, given)
            ranks = turned([ONE, TWO, THREE], order)
            steady = [listed(*each) for one in ranks for each in given if each[0] == one]
            self.assertEqual(entries_after(calls, v, len(given)), told_entries(steady))

    def test_ranks_of_every_sort(self):
        given = [(listed(), A), (text("x"), B), (number(-1, 2), C), (TRUE, D), (listed(), E)]
        calls, v = built(QUEUE, 0, given)
        rising = [(TRUE, D), (number(-1, 2), C), (text("x"), B), (listed(), A), (listed(), E)]
        self.assertEqual(entries_after(calls, v, 5), told_entries([listed(*each) for each in rising]))

    def test_take_none_some_all_more(self):
        for order in ORDERS:
            calls, v = built(QUEUE, order, [(ONE, A), (TWO, B), (ONE, C)])
            whole = turned([(ONE, A), (ONE, C), (TWO, B)], 0) if order != 1 else [(TWO, B), (ONE, A), (ONE, C)]
            for many in range(4):
                left = [listed(*each) for each in whole[many:]]
                self.assertEqual(entries_after(calls + [take(v, many)], v + 1, 3 - many), told_entries(left))
            self.assertEqual(run(*calls, take(v, 4), new(SET))[-2:], [NO_ABSENT, [0, v + 1]])

    def test_take_from_an_empty_one(self):
        self.assertEqual(run(new(QUEUE), take(0, 0), take(0, 1)), [[0, 0], [0, 1], NO_ABSENT])

    def test_added_behind_what_was_taken_from(self):
        calls, v = built(QUEUE, 0, [(ONE, A), (ONE, B), (TWO, C)])
        calls += [take(v, 1), add(v + 1, ONE, D)]
        rest = [listed(ONE, B), listed(ONE, D), listed(TWO, C)]
        self.assertEqual(entries_after(calls, v + 2, 3), told_entries(rest))


class Ranks(unittest.TestCase):
    def test_how_many_are_before(self):
        keys = [number(n) for n in (10, 20, 30, 40)]
        asked_for = [number(n) for n in (5, 10, 15, 20, 40, 41)]
        rising, falling = [0, 0, 1, 1, 3, 4], [4, 3, 3, 2, 0, 0]
        for order in ORDERS:
            for kind in (MAP, SET, QUEUE):
                calls, v = built(kind, order, keys if kind == SET else [(each, A) for each in keys])
                told = run(*calls, *[rank(v, each) for each in asked_for])[len(calls):]
                self.assertEqual(told, [[0, many] for many in (falling if order == 1 else rising)])

    def test_of_an_empty_one(self):
        for kind in (MAP, SET, QUEUE):
            self.assertEqual(last(new(kind), rank(0, A)), [0, 0])

    def test_of_a_queue_with_a_rank_many_times(self):
        calls, v = built(QUEUE, 0, [(TWO, A), (ONE, A), (TWO, B), (ONE, B), (TWO, C)])
        told = run(*calls, rank(v, number(0)), rank(v, ONE), rank(v, number(3, 2)), rank(v, TWO), rank(v, THREE))
        self.assertEqual(told[-5:], [[0, 0], [0, 0], [0, 2], [0, 2], [0, 5]])


class AtAndRange(unittest.TestCase):
    def made(self, kind, order):
        given = [A, B, C, D] if kind == SET else [(A, ONE), (B, TWO), (C, THREE), (D, FOUR)]
        calls, v = built(kind, order, given)
        return calls, v, turned(given if kind == SET else [listed(*each) for each in given], order)

    def test_at_its_ends(self):
        for kind, order in itertools.product((MAP, SET, QUEUE), ORDERS):
            calls, v, whole = self.made(kind, order)
            self.assertEqual(run(*calls, at(v, 0), at(v, 3), at(v, 4), at(v, 5))[-4:],
                             [[0] + whole[0], [0] + whole[3], NO_ABSENT, NO_ABSENT])

    def test_every_range(self):
        for kind, order in itertools.product((MAP, SET, QUEUE), ORDERS):
            calls, v, whole = self.made(kind, order)
            for i, many in itertools.product(range(7), repeat=2):
                if i + many > 4:
                    self.assertEqual(run(*calls, part(v, i, many), new(SET))[-2:], [NO_ABSENT, [0, v + 1]])
                else:
                    told = entries_after(calls + [part(v, i, many)], v + 1, many)
                    self.assertEqual(told, told_entries(whole[i:i + many]))

    def test_a_range_has_the_kind_and_the_order(self):
        for kind, order in itertools.product((MAP, SET, QUEUE), ORDERS):
            calls, v, whole = self.made(kind, order)
            calls.append(part(v, 1, 2))
            for u, other in enumerate(ORDERS):
                told = run(*calls, new(kind, 0), new(kind, 1), new(kind, 2), join(v + 1, v + 2 + u, 0))
                self.assertEqual(told[-1], [0, v + 5] if other == order else NO_KIND)

    def test_of_an_empty_one(self):
        for kind in (MAP, SET, QUEUE, ROWS):
            self.assertEqual(run(new(kind), at(0, 0), part(0, 0, 0), part(0, 1, 0), part(0, 0, 1)),
                             [[0, 0], NO_ABSENT, [0, 1], NO_ABSENT, NO_ABSENT])

    def test_of_rows(self):
        calls, v = built(ROWS, 0, [B, A, B])
        told = run(*calls, count(v), at(v, 0), at(v, 1), at(v, 2), at(v, 3), part(v, 1, 2), *asked(v + 1, 2),
                   part(v, 3, 0), part(v, 4, 0), part(v, 2, 2), count(v + 2), kind_of(v + 2))
        self.assertEqual(told[len(calls):], [[0, 3], [0] + B, [0] + A, [0] + B, NO_ABSENT, [0, v + 1]]
                         + told_entries([A, B]) + [[0, v + 2], NO_ABSENT, NO_ABSENT, [0, 0], [0, 2, ROWS, 0]])


class Joins(unittest.TestCase):
    def joined(self, kind, order, first, second, how):
        """The calls that join two versions, and the number of what comes of it."""
        calls, v = built(kind, order, first)
        more, u = built(kind, order, second, v + 1)
        return calls + more + [join(v, u, how)], u + 1

    def check(self, kind, order, first, second, how, rising):
        calls, v = self.joined(kind, order, first, second, how)
        self.assertEqual(run(*calls)[-1], [0, v])
        self.assertEqual(entries_after(calls, v, len(rising)), told_entries(rising))

    def test_sets(self):
        for order in ORDERS:
            for how, rising in ((0, [A, B, C, D, E]), (1, [B, D]), (2, [A, E]), (3, [A, C, E])):
                self.check(SET, order, [A, B, D, E], [B, C, D], how, turned(rising, order))

    def test_maps(self):
        first = [(A, ONE), (B, ONE), (D, ONE), (E, ONE)]
        second = [(B, TWO), (C, TWO), (D, TWO)]
        ones, twos = dict.fromkeys("ae", ONE), dict.fromkeys("bcd", TWO)
        for order in ORDERS:
            for how, values in ((0, {**ones, **twos}), (1, dict.fromkeys("bd", ONE)), (2, ones),
                                (3, {**ones, "c": TWO})):
                rising = [listed(text(name), values[name]) for name in sorted(values)]
                self.check(MAP, order, first, second, how, turned(rising, order))

    def test_every_pair_of_small_sets(self):
        keys = [A, B, C]
        some = [list(each) for many in range(4) for each in itertools.combinations(keys, many)]
        for first, second in itertools.product(some, repeat=2):
            self.check(SET, 0, first, second, 0, [each for each in keys if each in first or each in second])
            self.check(SET, 0, first, second, 1, [each for each in keys if each in first and each in second])
            self.check(SET, 0, first, second, 2, [each for each in keys if each in first and each not in second])
            self.check(SET, 0, first, second, 3, [each for each in keys if (each in first) != (each in second)])

    def test_queues(self):
        first = [(TWO, A), (ONE, B), (TWO, C), (FOUR, A)]
        second = [(TWO, D), (TWO, A), (THREE, B), (ONE, E), (number(5), C), (number(0), C)]
        for order in ORDERS:
            ranks = turned([number(n) for n in range(6)], order)
            steady = [listed(*each) for one in ranks for each in first + second if each[0] == one]
            self.check(QUEUE, order, first, second, 0, steady)

    def test_queues_with_an_empty_one(self):
        some = [(ONE, A), (ONE, B), (TWO, C)]
        for order in ORDERS:
            rising = [listed(*each) for each in (some if order != 1 else [some[2], some[0], some[1]])]
            self.check(QUEUE, order, some, [], 0, rising)
            self.check(QUEUE, order, [], some, 0, rising)
            self.check(QUEUE, order, [], [], 0, [])

    def test_rows(self):
        for first, second in itertools.product(([B, A, B], [C, A], []), repeat=2):
            self.check(ROWS, 0, first, second, 0, first + second)

    def test_with_itself(self):
        for order in ORDERS:
            for kind, given in ((SET, [A, B, C]), (MAP, [(A, ONE), (B, TWO), (C, THREE)])):
                calls, v = built(kind, order, given)
                whole = turned(given if kind == SET else [listed(*each) for each in given], order)
                for how, rising in ((0, whole), (1, whole), (2, []), (3, [])):
                    told = entries_after(calls + [join(v, v, how)], v + 1, len(rising))
                    self.assertEqual(told, told_entries(rising))

    def test_a_row_with_itself(self):
        calls, v = built(ROWS, 0, [B, A])
        self.assertEqual(entries_after(calls + [join(v, v, 0)], v + 1, 4), told_entries([B, A, B, A]))
        self.assertEqual(entries_after(calls + [join(v, v, 0)], v, 2), told_entries([B, A]))

    def test_a_queue_with_itself(self):
        calls, v = built(QUEUE, 0, [(ONE, A), (ONE, B), (TWO, C)])
        rising = [(ONE, A), (ONE, B), (ONE, A), (ONE, B), (TWO, C), (TWO, C)]
        told = entries_after(calls + [join(v, v, 0)], v + 1, 6)
        self.assertEqual(told, told_entries([listed(*each) for each in rising]))

    def test_1_to_3_of_queues_and_rows(self):
        for kind in (QUEUE, ROWS):
            for how in (1, 2, 3):
                self.assertEqual(run(new(kind), new(kind), join(0, 1, how), join(0, 0, how), new(SET))[2:],
                                 [NO_KIND, NO_KIND, [0, 2]])

    def test_not_of_one_kind_and_one_order(self):
        for one, other in itertools.permutations(KINDS, 2):
            calls = [new(*one), new(*other)] + [join(0, 1, how) for how in range(4)]
            self.assertEqual(run(*calls)[2:], [NO_KIND] * 4)

    def test_in_order_2_a_join_is_in_that_order(self):
        self.check(SET, 2, [text("aa"), text("c")], [text("b"), text("aaa"), text("aa")], 0,
                   [text("b"), text("c"), text("aa"), text("aaa")])
        self.check(SET, 2, [text("aa"), text("c")], [text("b"), text("aaa"), text("aa")], 3,
                   [text("b"), text("c"), text("aaa")])

    def test_a_join_can_be_changed_on(self):
        calls, v = self.joined(SET, 0, [A, C], [B, D], 0)
        calls += [drop(v, C), key(v + 1, E)]
        self.assertEqual(entries_after(calls, v + 2, 4), told_entries([A, B, D, E]))


class SameWhateverTheWay(unittest.TestCase):
    def test_a_set_by_keys_by_join_by_drop(self):
        for order in ORDERS:
            calls, v = built(SET, order, [A, B, C])
            more, u = built(SET, order, [C, D, B], v + 1)
            calls += more + [join(v, u, 0), drop(u + 1, D), part(u + 1, 0 if order != 1 else 1, 3)]
            whole = told_entries(turned([A, B, C], order))
            for number_of in (v, u + 2, u + 3):
                self.assertEqual(entries_after(calls, number_of, 3), whole)


if __name__ == "__main__":
    unittest.main()
