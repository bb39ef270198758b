"""Which values may be handed over: promise 7, and "Values"."""

import unittest

from tests.helper import (
    FALSE, LAST_NUMBER, MAP, NO_ABSENT, NO_RANGE, ORDERS, QUEUE, ROWS, SET, TRUE, add, at, before, change, drop, form,
    get, in_order, insert, key, last, listed, nested, new, number, put, rank, run, text)


def handing(value):
    """Each call with a value, and the kind it is for, with the value at each place."""
    return [
        (MAP, put(0, value, TRUE)), (MAP, put(0, TRUE, value)), (SET, key(0, value)), (MAP, drop(0, value)),
        (SET, drop(0, value)), (MAP, get(0, value)), (SET, get(0, value)), (MAP, rank(0, value)),
        (SET, rank(0, value)), (QUEUE, rank(0, value)), (QUEUE, add(0, value, TRUE)), (QUEUE, add(0, TRUE, value)),
        (ROWS, insert(0, 0, value)), (ROWS, change(1, 0, value)), (ROWS, before(0, value, TRUE)),
        (ROWS, before(1, TRUE, value)), (ROWS, before(2, value, TRUE))]


def before_it(kind):
    return [new(kind), insert(0, 0, FALSE)] if kind == ROWS else [new(kind)]


def deep(value, lists):
    for turn in range(lists):
        value = listed(value)
    return value


class Handed(unittest.TestCase):
    def refused(self, value):
        for kind, call in handing(value):
            self.assertEqual(last(*before_it(kind), call), NO_RANGE, call[:1])

    def allowed(self, value):
        for kind, call in handing(value):
            self.assertIn(last(*before_it(kind), call)[0], (0, 1), call[:1])

    def test_every_sort_is_allowed(self):
        for value in (FALSE, TRUE, number(0), number(-3, 7), text(""), text("abc"), text(range(256)), listed(),
                      listed(FALSE, number(1), text("a"), listed(listed()))):
            self.allowed(value)
            self.assertEqual(last(new(SET), key(0, value), get(1, value)), [0] + value)
            self.assertEqual(last(new(MAP), put(0, TRUE, value), get(1, TRUE)), [0] + value)
            self.assertEqual(last(new(ROWS), insert(0, 0, value), at(1, 0)), [0] + value)
            self.assertEqual(last(new(ROWS), insert(0, 0, TRUE), change(1, 0, value), at(2, 0)), [0] + value)

    def test_numbers_in_lowest_terms(self):
        for value in (number(0), number(1), number(-1), number(1, 2), number(-1, 2), number(6, 35), number(-9, 4),
                      number(2 ** 63 - 1), number(-2 ** 63), number(-2 ** 63, 2 ** 63 - 1), number(1, 2 ** 63 - 1)):
            self.allowed(value)
            self.allowed(listed(TRUE, value))

    def test_numbers_not_in_lowest_terms(self):
        for value in (number(0, 2), number(2, 2), number(2, 4), number(-2, 4), number(6, 9), number(-35, 5),
                      number(-2 ** 63, 2), number(2 ** 62, 2 ** 62), number(0, 2 ** 63 - 1)):
            self.refused(value)
            self.refused(listed(value))
            self.refused(listed(TRUE, listed(text("a"), value), TRUE))

    def test_numbers_with_d_0(self):
        for value in (number(0, 0), number(1, 0), number(-1, 0), number(5, 0), number(-2 ** 63, 0)):
            self.refused(value)
            self.refused(listed(listed(), listed(value)))

    def test_depth_40_and_41(self):
        self.allowed(nested(40))
        self.refused(nested(41))
        for leaf in (TRUE, number(1, 2), text(""), text("abc")):
            self.allowed(deep(leaf, 39))
            self.refused(deep(leaf, 40))

    def test_depth_is_that_of_the_deepest_part(self):
        self.allowed(listed(nested(39), TRUE, nested(3)))
        self.allowed(listed(nested(39), nested(39), nested(39)))
        self.allowed(listed(*[listed(TRUE)] * 60))
        self.refused(listed(nested(40), TRUE))
        self.refused(listed(TRUE, nested(2), nested(40)))
        self.refused(listed(listed(nested(1), nested(39)), TRUE))

    def test_depth_up_to_60(self):
        for depth in range(42, 61):
            self.refused(nested(depth))
        self.refused(deep(TRUE, 59))

    def test_text_counts_its_bytes_and_1(self):
        self.allowed(text([7] * 4095))
        self.refused(text([7] * 4096))

    def test_truths_count_1_and_a_list_1_more(self):
        self.allowed(listed(*[TRUE] * 4095))
        self.refused(listed(*[TRUE] * 4096))
        self.allowed(listed(*[listed()] * 4095))
        self.refused(listed(*[listed()] * 4096))

    def test_empty_texts_count_1(self):
        self.allowed(listed(*[text("")] * 4095))
        self.refused(listed(*[text("")] * 4096))

    def filled(self, value, weight, parts):
        """A list that counts 4,096 with these parts, and one that counts 1 more."""
        rest = 4096 - 1 - weight * parts
        self.allowed(listed(text([0] * (rest - 1)), *[value] * parts))
        self.refused(listed(text([0] * rest), *[value] * parts))

    def test_numbers_count_their_digits(self):
        for value, weight in ((number(0), 2), (number(9), 2), (number(10), 3), (number(-9), 2), (number(-10), 3),
                              (number(99), 3), (number(100), 4), (number(1, 9), 2), (number(1, 10), 3),
                              (number(-999, 1000), 7), (number(-2 ** 63), 20), (number(2 ** 63 - 1), 20),
                              (number(-2 ** 63, 2 ** 63 - 1), 38)):
            self.filled(value, weight, 1)
            self.filled(value, weight, 50)

    def test_lists_count_all_within_them(self):
        self.filled(listed(TRUE, text("ab"), number(12, 7)), 1 + 1 + 3 + 3, 20)
        self.filled(listed(listed(listed(TRUE)), listed()), 1 + 3 + 1, 100)

    def test_too_deep_and_too_many_where_the_version_is_not_there(self):
        for value in (nested(41), text([0] * 4096), number(2, 4)):
            self.assertEqual(last(key(9, value)), NO_RANGE)
            self.assertEqual(last(key(9, TRUE)), NO_ABSENT)
            self.assertEqual(run(insert(9, 0, value), change(9, 0, value)), [NO_RANGE] * 2)
            self.assertEqual(run(insert(9, 0, TRUE), change(9, 0, TRUE)), [NO_ABSENT] * 2)

    def test_two_values_each_looked_at(self):
        bad = number(3, 3)
        self.assertEqual(run(new(MAP), put(0, bad, bad), put(0, bad, TRUE), put(0, TRUE, bad), put(0, TRUE, TRUE)),
                         [[0, 0], NO_RANGE, NO_RANGE, NO_RANGE, [0, 1]])
        self.assertEqual(run(before(0, bad, bad), before(0, bad, TRUE), before(0, TRUE, bad), before(0, TRUE, TRUE)),
                         [NO_RANGE, NO_RANGE, NO_RANGE, [0, 1]])

    def test_long_values(self):
        long_list = listed(*[number(-12345, 7)] * 600)
        self.assertEqual(last(new(SET), key(0, long_list), get(1, long_list)), [0] + long_list)
        self.refused(listed(*[listed(FALSE, FALSE)] * 1366))
        self.refused(listed(*[number(1, 2)] * 2500))


class Wholes(unittest.TestCase):
    def test_edge_and_one_above(self):
        for call in ([6, None], [8, None, 0], [9, None, 0, 0], [10, None, 0, 0], [10, 0, None, 0], [12, None, 0],
                     [15, None, 0, 0], [16, None, 0], [17, None], [19, None], [20, None], [22, None, 0], [22, 0, None],
                     [24, None, 0], [24, 0, None]):
            for whole, answer in ((LAST_NUMBER, NO_ABSENT), (LAST_NUMBER + 1, NO_RANGE), (2 ** 63 - 1, NO_RANGE)):
                filled = [whole if each is None else each for each in call]
                self.assertEqual(last(new(QUEUE), filled), answer, filled)

    def test_edge_and_one_above_of_calls_with_values(self):
        for call in (put(None, TRUE, TRUE), key(None, TRUE), drop(None, TRUE), get(None, TRUE), rank(None, TRUE),
                     add(None, TRUE, TRUE), insert(None, 0, TRUE), change(None, 0, TRUE)):
            for whole, answer in ((LAST_NUMBER, NO_ABSENT), (LAST_NUMBER + 1, NO_RANGE)):
                filled = [whole if each is None else each for each in call]
                self.assertEqual(last(new(MAP), filled), answer, filled)

    def test_places_and_lengths(self):
        for call in ([8, 0, None], [9, 0, None, 0], [9, 0, 0, None], [12, 0, None]):
            for whole, answer in ((LAST_NUMBER, NO_ABSENT), (LAST_NUMBER + 1, NO_RANGE)):
                filled = [whole if each is None else each for each in call]
                self.assertEqual(last(new(QUEUE), filled), answer, filled)
        self.assertEqual(last(new(QUEUE), [9, 0, LAST_NUMBER, LAST_NUMBER]), NO_ABSENT)

    def test_places_and_lengths_of_rows(self):
        for call in (insert(0, None, TRUE), change(0, None, TRUE), [15, 0, None, 0], [15, 0, 0, None]):
            for whole, answer in ((LAST_NUMBER, NO_ABSENT), (LAST_NUMBER + 1, NO_RANGE)):
                filled = [whole if each is None else each for each in call]
                self.assertEqual(last(new(ROWS), filled), answer, filled)
        self.assertEqual(last(new(ROWS), [15, 0, LAST_NUMBER, LAST_NUMBER]), NO_ABSENT)

    def test_orders_of_sorted_and_before(self):
        for order in (0, 1, 2, 3, 4, LAST_NUMBER, LAST_NUMBER + 1):
            fits = order in ORDERS
            self.assertEqual(run(new(ROWS), in_order(0, order))[1], [0, 1] if fits else NO_RANGE)
            self.assertEqual(run(before(order, TRUE, TRUE))[0], [0, 1] if fits else NO_RANGE)

    def test_below_0(self):
        for call in ([1, -1, 0], [1, 0, -1], [6, -1], [8, -1, 0], [8, 0, -1], [9, 0, -1, 0], [9, 0, 0, -1],
                     [9, 0, 1, -1], [10, -1, 0, 0], [10, 0, -1, 0], [10, 0, 0, -1], [12, 0, -1], key(-1, TRUE),
                     insert(0, -1, TRUE), change(0, -1, TRUE), [15, 0, -1, 1], [15, 0, 1, -1], [16, 0, -1], [17, -1],
                     [19, -1], [20, -1], [22, 0, -1], [22, -1, 0], before(-1, TRUE, TRUE), [24, 0, -1], [24, -1, 0]):
            self.assertEqual(last(new(QUEUE), call), NO_RANGE, call)

    def test_kinds_and_orders(self):
        for kind in range(6):
            for order in range(5):
                fits = kind <= 3 and order <= 2 and (kind != 3 or order == 0)
                self.assertEqual(last(new(kind, order)), [0, 0] if fits else NO_RANGE, (kind, order))
        for whole in (LAST_NUMBER, LAST_NUMBER + 1):
            self.assertEqual(last(new(whole, 0)), NO_RANGE)
            self.assertEqual(last(new(0, whole)), NO_RANGE)

    def test_a_refused_one_is_not_kept(self):
        told = run(new(ROWS), insert(0, 0, TRUE), insert(1, 0, nested(41)), change(1, 0, text([0] * 4096)),
                   in_order(1, 3), form(1), new(ROWS))
        self.assertEqual(told[2:], [NO_RANGE] * 3 + [[0, 3, 3, 1, 3, 1, 1, 0, 1, 3, 1, 0, 1], [0, 2]])

    def test_how(self):
        for how in range(7):
            self.assertEqual(last(new(SET), [10, 0, 0, how]), [0, 1] if how <= 3 else NO_RANGE)
        for how in (LAST_NUMBER, LAST_NUMBER + 1):
            self.assertEqual(last(new(SET), [10, 0, 0, how]), NO_RANGE)


if __name__ == "__main__":
    unittest.main()
