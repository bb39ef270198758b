"""Promises 1, 2 and 6: the calls same, before and differ."""

import itertools
import unittest

from tests.helper import (
    FALSE, KINDS, MAP, NO_ABSENT, NO_KIND, ORDERS, QUEUE, ROWS, SET, TRUE, add, before, built, change, differ, drop,
    forget, form, in_order, insert, join, key, last, listed, nested, new, number, of, part, plain_entries, put, remove,
    room, run, same, take, text)
from tests.test_orders import PLAIN, RISING

A, B, C, D, E = text("a"), text("b"), text("c"), text("d"), text("e")
ONE, TWO, THREE = number(1), number(2), number(3)


class Same(unittest.TestCase):
    def check(self, calls, v, u, told):
        self.assertEqual(run(*calls, same(v, u), same(u, v))[len(calls):], [[0, told]] * 2, (v, u))

    def two(self, kind, order, first, second, told):
        calls, v = built(kind, order, first)
        more, u = built(kind, order, second, v + 1)
        self.check(calls + more, v, u, told)

    def test_with_itself(self):
        for kind, order in KINDS:
            for many in range(4):
                calls, v = built(kind, order, plain_entries(kind, [A, listed(B), ONE][:many]))
                self.check(calls, v, v, 1)

    def test_made_in_other_ways(self):
        calls = [new(SET), key(0, A), key(1, B), new(SET), key(3, B), key(4, C), key(5, A), drop(6, C), join(2, 4, 0),
                 part(6, 0, 2), join(6, 4, 2), key(10, B), drop(11, C)]
        for v, u in itertools.product((2, 7, 8, 9, 12), repeat=2):
            self.check(calls, v, u, 1)

    def test_maps_made_in_other_ways(self):
        calls = [new(MAP), put(0, A, ONE), put(1, B, TWO), new(MAP), put(3, B, ONE), put(4, A, ONE), put(5, B, TWO),
                 put(6, C, TWO), drop(7, C), join(5, 2, 0), join(6, 5, 1)]
        for v, u in itertools.product((2, 6, 8, 9, 10), repeat=2):
            self.check(calls, v, u, 1)
        for v, u in itertools.product((2, 6), (1, 5, 7)):
            self.check(calls, v, u, 0)

    def test_queues_made_in_other_ways(self):
        calls = [new(QUEUE), add(0, ONE, A), add(1, ONE, B), add(2, TWO, A), new(QUEUE), add(4, TWO, A), add(5, ONE, A),
                 add(6, ONE, B), add(7, FALSE, D), take(8, 1), part(3, 0, 2), part(3, 2, 1), join(10, 11, 0)]
        for v, u in itertools.product((3, 7, 9, 12), repeat=2):
            self.check(calls, v, u, 1)

    def test_rows_made_in_other_ways(self):
        calls = [new(ROWS), insert(0, 0, B), insert(1, 0, A), insert(0, 0, A), insert(3, 1, A), change(4, 1, B),
                 insert(5, 1, C), remove(6, 1, 1), join(3, 1, 0), join(1, 3, 0), in_order(9, 0)]
        for v, u in itertools.product((2, 5, 7, 8, 10), repeat=2):
            self.check(calls, v, u, 1)
        self.check(calls, 2, 9, 0)

    def test_empty_ones(self):
        for one, other in itertools.product(KINDS, repeat=2):
            self.check([new(*one), new(*other)], 0, 1, 1 if one == other else 0)

    def test_that_differ_in_kind_or_order(self):
        for one, other in itertools.product(KINDS, repeat=2):
            calls, v = built(*one, plain_entries(one[0], [A]))
            more, u = built(*other, plain_entries(other[0], [A]), v + 1)
            self.check(calls + more, v, u, 1 if one == other else 0)

    def test_a_row_of_pairs_is_no_map(self):
        self.check([new(MAP), put(0, A, ONE), new(ROWS), insert(2, 0, listed(A, ONE))], 1, 3, 0)
        self.check([new(MAP), put(0, A, ONE), new(QUEUE), add(2, A, ONE)], 1, 3, 0)

    def test_that_differ_in_one_entry(self):
        for kind, order in KINDS:
            for i in range(4):
                other = [A, B, C, D]
                other[i] = E
                self.two(kind, order, plain_entries(kind, [A, B, C, D]), plain_entries(kind, other), 0)
                self.two(kind, order, plain_entries(kind, [A, B, C, D]), plain_entries(kind, [A, B, C, D]), 1)

    def test_that_differ_in_a_value_alone(self):
        for kind, order in itertools.product((MAP, QUEUE), ORDERS):
            for i in range(3):
                other = [(A, ONE), (B, ONE), (C, ONE)]
                other[i] = (other[i][0], TWO)
                self.two(kind, order, plain_entries(kind, [A, B, C]), other, 0)

    def test_that_differ_in_a_key_alone_with_as_much_room(self):
        for kind, order in KINDS:
            self.two(kind, order, plain_entries(kind, [A]), plain_entries(kind, [B]), 0)
            self.two(kind, order, plain_entries(kind, [ONE, A]), plain_entries(kind, [ONE, B]), 0)

    def test_that_differ_in_length(self):
        for kind, order in KINDS:
            for many, fewer in itertools.combinations(range(4), 2):
                self.two(kind, order, plain_entries(kind, [A, B, C][:many]), plain_entries(kind, [A, B, C][:fewer]), 0)

    def test_queues_in_which_the_same_rank_stands_otherwise(self):
        self.two(QUEUE, 0, [(ONE, A), (ONE, B)], [(ONE, B), (ONE, A)], 0)
        self.two(QUEUE, 0, [(ONE, A), (TWO, B)], [(TWO, B), (ONE, A)], 1)
        self.two(QUEUE, 0, [(ONE, A)], [(ONE, A), (ONE, A)], 0)

    def test_rows_that_stand_otherwise(self):
        self.two(ROWS, 0, [A, B], [B, A], 0)
        self.two(ROWS, 0, [A, B, A], [A, A, B], 0)

    def test_values_that_are_near(self):
        near = [TRUE, ONE, text([1]), listed(), listed(ONE), text(""), FALSE, number(0), number(1, 2), number(-1)]
        for kind, order in KINDS:
            for x, y in itertools.product(near, repeat=2):
                self.two(kind, order, plain_entries(kind, [x]), plain_entries(kind, [y]), 1 if x == y else 0)

    def test_of_what_is_not_there(self):
        self.assertEqual(run(new(SET), new(MAP), same(0, 2), same(2, 0), same(2, 2), same(0, 1))[2:],
                         [NO_ABSENT] * 3 + [[0, 0]])


class Before(unittest.TestCase):
    def test_every_pair(self):
        for order in ORDERS:
            rising = RISING[order]
            for here, x in enumerate(rising):
                told = run(*[before(order, x, y) for y in rising])
                self.assertEqual(told, [[0, 2 if there < here else 1 if there == here else 0]
                                        for there in range(len(rising))], (order, x))

    def test_each_pair_of_sorts(self):
        sorts = [(FALSE, TRUE), (number(-5, 2), number(7)), (text(""), text("zz")), (listed(), listed(FALSE))]
        for here, there in itertools.product(range(4), repeat=2):
            for x, y in itertools.product(sorts[here], sorts[there]):
                if here != there:
                    told = run(*[before(order, x, y) for order in ORDERS])
                    self.assertEqual(told, [[0, 0], [0, 2], [0, 0]] if here < there else [[0, 2], [0, 0], [0, 2]])

    def test_the_two_that_are_turned_round(self):
        for x, y in itertools.product(PLAIN[::4], repeat=2):
            told = run(*[before(order, *pair) for order in ORDERS for pair in ((x, y), (y, x))])
            for one, other in (told[0:2], told[2:4], told[4:6]):
                self.assertEqual(one[1] + other[1], 2)
            self.assertEqual(told[0], told[3])

    def test_it_needs_no_version(self):
        self.assertEqual(run(before(0, A, B), room()), [[0, 0], [0, 3, 0, 0, 0]])

    def test_deep_and_long_values(self):
        x, y = listed(*[nested(39)] * 30, TRUE), listed(*[nested(39)] * 30, ONE)
        self.assertEqual(run(*[before(order, x, y) for order in ORDERS]), [[0, 0], [0, 2], [0, 0]])
        x, y = text([5] * 4000 + [0]), text([5] * 4000)
        self.assertEqual([last(before(0, *pair)) for pair in ((x, y), (y, x), (x, x))], [[0, 2], [0, 0], [0, 1]])


class Differ(unittest.TestCase):
    def told(self, differing):
        return [0] + listed(*[listed(number(where), each) for where, each in differing])

    def check(self, kind, order, first, second, differing):
        """What differs, told for order 0: order 1 is that turned round; and the other way about."""
        calls, v = built(kind, order, first)
        more, u = built(kind, order, second, v + 1)
        calls += more
        told = differing[::-1] if order == 1 else differing
        other = [((1, 0, 2)[where], each) for where, each in told]
        self.assertEqual(run(*calls, room(), differ(v, u), differ(u, v), room(), new(SET))[len(calls) + 1:],
                         [self.told(told), self.told(other), run(*calls, room())[-1], [0, u + 1]])

    def test_sets(self):
        for order in ORDERS:
            self.check(SET, order, [A, B, D, E], [B, C, D], [(0, A), (1, C), (0, E)])
            self.check(SET, order, [A], [B], [(0, A), (1, B)])
            self.check(SET, order, [B], [A], [(1, A), (0, B)])

    def test_maps(self):
        first = [(A, ONE), (B, ONE), (C, ONE), (E, ONE)]
        second = [(B, TWO), (C, ONE), (D, ONE), (E, listed(ONE))]
        for order in ORDERS:
            self.check(MAP, order, first, second, [(0, A), (2, B), (1, D), (2, E)])

    def test_of_same_ones(self):
        for kind, order in itertools.product((MAP, SET), ORDERS):
            for many in range(4):
                entries = plain_entries(kind, [A, B, C][:many])
                self.check(kind, order, entries, entries[::-1], [])
                calls, v = built(kind, order, entries)
                self.assertEqual(last(*calls, differ(v, v)), [0, 3, 0])

    def test_with_an_empty_one(self):
        for kind, order in itertools.product((MAP, SET), ORDERS):
            self.check(kind, order, plain_entries(kind, [A, B, C]), [], [(0, A), (0, B), (0, C)])

    def test_as_it_is_written(self):
        calls = [new(MAP), put(0, A, ONE), put(0, A, TWO), differ(1, 2), differ(0, 1), differ(1, 0)]
        self.assertEqual(run(*calls)[3:], [[0, 3, 1, 3, 2, 1, 2, 1, 2, 1, 97], [0, 3, 1, 3, 2, 1, 1, 1, 2, 1, 97],
                                           [0, 3, 1, 3, 2, 1, 0, 1, 2, 1, 97]])

    def test_in_the_order_of_the_keys(self):
        keys = [text("aa"), text("b"), listed(text("aa")), listed(text("b")), number(10), number(9)]
        rising = {0: [number(9), number(10), text("aa"), text("b"), listed(text("aa")), listed(text("b"))],
                  2: [number(9), number(10), text("b"), text("aa"), listed(text("b")), listed(text("aa"))]}
        rising[1] = rising[0]
        for order in ORDERS:
            for chosen in itertools.combinations(range(6), 3):
                first = [keys[i] for i in chosen]
                second = [each for each in keys if each not in first]
                self.check(SET, order, first, second, [(0 if each in first else 1, each) for each in rising[order]])

    def test_every_pair_of_small_maps(self):
        some = [dict(zip("abc", values)) for values in itertools.product([None, 1, 2], repeat=3)]
        for first, second in itertools.product(some, repeat=2):
            differing = []
            for name in "abc":
                x, y = first[name], second[name]
                if x != y:
                    differing.append((0 if y is None else 1 if x is None else 2, text(name)))
            entries = [[(text(name), number(value)) for name, value in one.items() if value is not None]
                       for one in (first, second)]
            for order in ORDERS:
                self.check(MAP, order, entries[0], entries[1], differing)

    def test_a_change_is_what_differs(self):
        calls, v = built(MAP, 0, plain_entries(MAP, [A, B, C]))
        told = run(*calls, put(v, B, TWO), drop(v, C), put(v, D, TWO), put(v, A, ONE),
                   *[differ(v, v + turn) for turn in (1, 2, 3, 4)])[len(calls) + 4:]
        self.assertEqual(told, [self.told([(2, B)]), self.told([(0, C)]), self.told([(1, D)]), self.told([])])

    def test_not_of_queues_and_rows(self):
        for kind, order in KINDS[6:]:
            calls, v = built(kind, order, plain_entries(kind, [A]))
            self.assertEqual(run(*calls, differ(v, v), differ(v, 0), differ(0, v))[len(calls):], [NO_KIND] * 3)

    def test_not_of_other_kinds_or_orders(self):
        for one, other in itertools.permutations(KINDS, 2):
            self.assertEqual(run(new(*one), new(*other), differ(0, 1))[2], NO_KIND)

    def test_of_what_is_not_there(self):
        self.assertEqual(run(new(SET), new(ROWS), differ(0, 2), differ(2, 0), differ(2, 2), differ(1, 2), differ(2, 1),
                             forget(0), differ(0, 0), differ(1, 0))[2:],
                         [NO_ABSENT] * 5 + [[0]] + [NO_ABSENT] * 2)

    def test_a_deep_key(self):
        deep = nested(40)
        self.assertEqual(last(new(SET), key(0, deep), differ(0, 1)), self.told([(1, deep)]))

    def test_of_a_version_that_of_made(self):
        calls, v = built(MAP, 1, plain_entries(MAP, [A, B, C]))
        told = last(*calls, form(v))[1:]
        self.assertEqual(run(*calls, of(told), differ(v, v + 1), differ(v + 1, v), drop(v + 1, B),
                             differ(v + 2, v))[len(calls):],
                         [[0, v + 1], [0, 3, 0], [0, 3, 0], [0, v + 2], self.told([(1, B)])])


if __name__ == "__main__":
    unittest.main()
