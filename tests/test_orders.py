"""Promise 1: orders are told and total."""

import itertools
import random
import unittest
from fractions import Fraction

from tests.helper import (
    FALSE, MAP, ORDERS, QUEUE, SET, TRUE, add, asked, built, get, key, last, listed, new, number, put, rank, run,
    text, told_entries)

PLAIN = [
    FALSE, TRUE,
    number(-2 ** 63), number(-2 ** 63 + 1), number(-10), number(-7, 2), number(-3), number(-1),
    number(-1, 2), number(-1, 3), number(-1, 2 ** 63 - 1), number(0), number(1, 2 ** 63 - 1), number(1, 2 ** 63 - 2),
    number(1, 3), number(1, 2), number(2, 3), number(1), number(2 ** 63 - 1, 2 ** 63 - 2), number(10, 9),
    number(2), number(10), number(2 ** 63 - 2), number(2 ** 63 - 1),
    text(""), text([0]), text([0, 0]), text([0, 255]), text([1]), text("a"), text("aa"), text("ab"), text("b"),
    text("ba"), text([127]), text([128]), text([255]), text([255, 0]),
    listed(), listed(FALSE), listed(FALSE, FALSE), listed(FALSE, TRUE), listed(TRUE), listed(TRUE, listed()),
    listed(number(-1)), listed(number(-1), text("z")), listed(number(1, 2)), listed(number(3)),
    listed(text("")), listed(text(""), TRUE), listed(text("a")), listed(text("a"), TRUE), listed(text("aa")),
    listed(text("b")), listed(text("b"), text("")), listed(text("b"), text("a")), listed(text("b"), text("aa")),
    listed(text("b"), text("b")),
    listed(listed()), listed(listed(), TRUE), listed(listed(), listed()), listed(listed(TRUE)),
    listed(listed(text("aa"))), listed(listed(text("b"))), listed(listed(listed()))]


def shorter_first(row):
    """Order 2 of the texts alone."""
    return sorted(row, key=lambda value: (len(value), value))


def order_2():
    texts = [value for value in PLAIN if value[0] == 2]
    lists = [
        listed(), listed(FALSE), listed(FALSE, FALSE), listed(FALSE, TRUE), listed(TRUE), listed(TRUE, listed()),
        listed(number(-1)), listed(number(-1), text("z")), listed(number(1, 2)), listed(number(3)),
        listed(text("")), listed(text(""), TRUE), listed(text("a")), listed(text("a"), TRUE), listed(text("b")),
        listed(text("b"), text("")), listed(text("b"), text("a")), listed(text("b"), text("b")),
        listed(text("b"), text("aa")), listed(text("aa")),
        listed(listed()), listed(listed(), TRUE), listed(listed(), listed()), listed(listed(TRUE)),
        listed(listed(text("b"))), listed(listed(text("aa"))), listed(listed(listed()))]
    return [value for value in PLAIN if value[0] < 2] + shorter_first(texts) + lists


RISING = {0: PLAIN, 1: PLAIN[::-1], 2: order_2()}


class Orders(unittest.TestCase):
    def test_the_rows_of_this_file(self):
        for order in ORDERS:
            self.assertEqual(sorted(RISING[order]), sorted(PLAIN))
        numbers = [Fraction(value[1], value[2]) for value in PLAIN if value[0] == 1]
        self.assertEqual(numbers, sorted(numbers))

    def test_every_pair(self):
        for order in ORDERS:
            rising = RISING[order]
            for here, x in enumerate(rising):
                told = run(new(SET, order), key(0, x), *[rank(1, y) for y in rising])[2:]
                self.assertEqual(told, [[0, 1 if there > here else 0] for there in range(len(rising))], (order, x))

    def test_every_pair_as_ranks_and_keys(self):
        for order in ORDERS:
            for kind, call in ((MAP, put), (QUEUE, add)):
                rising = RISING[order]
                here = len(rising) // 2
                told = run(new(kind, order), call(0, rising[here], TRUE), *[rank(1, y) for y in rising])[2:]
                self.assertEqual(told, [[0, 1 if there > here else 0] for there in range(len(rising))])

    def test_entries_rise_whatever_the_way(self):
        for order in ORDERS:
            rising = RISING[order]
            for seed in range(4):
                mixed = list(rising)
                random.Random(seed).shuffle(mixed)
                calls, v = built(SET, order, mixed)
                self.assertEqual(run(*calls, *asked(v, len(rising)))[len(calls):], told_entries(rising))
                calls, v = built(MAP, order, [(value, TRUE) for value in mixed])
                pairs = [listed(value, TRUE) for value in rising]
                self.assertEqual(run(*calls, *asked(v, len(rising)))[len(calls):], told_entries(pairs))
                calls, v = built(QUEUE, order, [(value, TRUE) for value in mixed])
                self.assertEqual(run(*calls, *asked(v, len(rising)))[len(calls):], told_entries(pairs))

    def test_rank_among_all(self):
        for order in ORDERS:
            calls, v = built(SET, order, RISING[order])
            told = run(*calls, *[rank(v, value) for value in RISING[order]])[len(calls):]
            self.assertEqual(told, [[0, here] for here in range(len(PLAIN))])

    def test_only_the_same_value_is_found(self):
        for order in ORDERS:
            for here, x in enumerate(PLAIN):
                told = run(new(SET, order), key(0, x), *[get(1, y) for y in PLAIN])[2:]
                self.assertEqual(told, [[0] + y if y == x else [1] for y in PLAIN])


class Fractions(unittest.TestCase):
    def test_fractions_that_are_very_near(self):
        top = 2 ** 63 - 1
        near = [(top - 2, top - 1), (top - 1, top), (top, top), (top, top - 1), (top - 1, top - 2)]
        rising = [number(1) if n == d else number(n, d) for n, d in near]
        for order in ORDERS:
            told = rising[::-1] if order == 1 else rising
            for mixed in itertools.permutations(rising):
                calls, v = built(SET, order, mixed)
                self.assertEqual(run(*calls, *asked(v, 5))[len(calls):], told_entries(told))

    def test_many_fractions(self):
        source = random.Random(5)
        tops = (3, 10, 1000, 2 ** 31, 2 ** 63 - 1)
        chosen = {Fraction(source.randint(-top, top), source.randint(1, top)) for top in tops for turn in range(60)}
        mixed = sorted(chosen, key=lambda fraction: (fraction.denominator % 7, fraction))
        for order in ORDERS:
            calls, v = built(SET, order, [number(each.numerator, each.denominator) for each in mixed])
            rising = sorted(chosen, reverse=order == 1)
            told = told_entries([number(each.numerator, each.denominator) for each in rising])
            self.assertEqual(run(*calls, *asked(v, len(rising)))[len(calls):], told)


class OrderTwo(unittest.TestCase):
    def test_shorter_texts_are_before(self):
        told = run(new(SET, 2), key(0, text("b")), rank(1, text("aa")), rank(1, text("a")), rank(1, text("")),
                   rank(1, text("c")))[2:]
        self.assertEqual(told, [[0, 1], [0, 0], [0, 0], [0, 1]])
        self.assertEqual(last(new(SET, 0), key(0, text("b")), rank(1, text("aa"))), [0, 0])
        self.assertEqual(last(new(SET, 1), key(0, text("b")), rank(1, text("aa"))), [0, 1])

    def test_within_lists(self):
        one = listed(TRUE, listed(text("b"), text("zzz")), FALSE)
        other = listed(TRUE, listed(text("aa")))
        self.assertEqual(last(new(SET, 2), key(0, one), rank(1, other)), [0, 1])
        self.assertEqual(last(new(SET, 0), key(0, one), rank(1, other)), [0, 0])

    def test_lists_are_not_by_their_length(self):
        self.assertEqual(last(new(SET, 2), key(0, listed(FALSE, FALSE)), rank(1, listed(TRUE))), [0, 1])


if __name__ == "__main__":
    unittest.main()
