"""Long inputs: long values, many calls, long versions, and that these don't take long."""

import time
import unittest

from tests.helper import (
    FALSE, MAP, NO_ABSENT, NO_FULL, NO_RANGE, NOTHING, ORDERS, QUEUE, ROWS, SET, TRUE, add, at, before, change, count,
    differ, drop, forget, form, form_value, get, in_order, insert, join, key, listed, nested, new, number, of, part,
    put, rank, remove, room, run, same, take, text)


class LongValues(unittest.TestCase):
    def test_some_thousand_numbers_in_one_value(self):
        value = listed(*[text([turn]) for turn in range(256)] * 5)
        other = listed(*[text([turn]) for turn in range(256)] * 4, *[text([turn]) for turn in range(255)], text([0]))
        self.assertEqual(run(new(SET), key(0, value), get(1, value), rank(1, other), rank(1, value), at(1, 0))[1:],
                         [[0, 1], [0] + value, [0, 0], [0, 0], [0] + value])

    def test_the_longest_row(self):
        self.assertEqual(run(new(SET), key(0, listed(*[FALSE] * 7949)))[1], NO_RANGE)
        self.assertEqual(run(new(MAP), put(0, listed(*[TRUE] * 3900), listed(*[FALSE] * 4000)))[1], [0, 1])

    def test_nested_up_to_60(self):
        for depth in range(1, 61):
            right = [0, 1] if depth <= 40 else NO_RANGE
            self.assertEqual(run(new(SET), key(0, nested(depth)))[1], right)
        self.assertEqual(run(new(SET), key(0, nested(39)), rank(1, nested(40)), rank(1, nested(38)))[2:],
                         [[0, 1], [0, 0]])


    def test_a_long_value_in_a_row(self):
        value = listed(*[text([turn]) for turn in range(256)] * 5)
        told = run(new(ROWS), insert(0, 0, value), insert(1, 1, TRUE), in_order(2, 0), form(3), change(3, 0, value),
                   at(4, 0))
        self.assertEqual(told[4:], [[0] + form_value(ROWS, 0, [TRUE, value]), [0, 4], [0] + value])

    def test_before_of_long_values(self):
        x = listed(*[FALSE] * 3900, FALSE)
        y = listed(*[FALSE] * 3900, TRUE)
        self.assertEqual([run(before(order, x, y))[0] for order in ORDERS], [[0, 0], [0, 2], [0, 0]])
        self.assertEqual(run(before(0, listed(*[TRUE] * 4096), TRUE)), [NO_RANGE])


class LongForms(unittest.TestCase):
    def test_some_thousand_entries(self):
        for kind, many in ((SET, 5000), (ROWS, 5000), (MAP, 1900), (QUEUE, 1900)):
            for order in ORDERS if kind != ROWS else (0,):
                keys = [number(n) for n in range(many)]
                keys = keys[::-1] if order == 1 else keys
                told = form_value(kind, order, [(each, TRUE) for each in keys] if kind in (MAP, QUEUE) else keys)
                self.assertEqual(run(of(told), count(0), form(0), same(0, 0)),
                                 [[0, 0], [0, many], [0] + told, [0, 1]])

    def test_the_longest_form(self):
        told = form_value(ROWS, 0, [FALSE] * 7945)
        self.assertEqual(len(told), 15900)
        self.assertEqual(run(of(told), form(0), room()), [[0, 0], [0] + told, [0, 3, 1 + 2 * 7945, 1, 1]])

    def test_nested_up_to_60(self):
        for lists in range(1, 61):
            self.assertEqual(run(of(nested(lists))), [NOTHING])
        for kind in (SET, ROWS):
            for lists in range(1, 59):
                self.assertEqual(run(of(form_value(kind, 0, [nested(lists)]))), [[0, 0] if lists <= 40 else [2, 0]])
        for kind in (MAP, QUEUE):
            for lists in range(1, 58):
                for entry in ((nested(lists), TRUE), (TRUE, nested(lists))):
                    self.assertEqual(run(of(form_value(kind, 0, [entry]))), [[0, 0] if lists <= 40 else [2, 0]])

    def test_differ_of_long_sets(self):
        even = form_value(SET, 0, [number(2 * n) for n in range(2000)])
        third = form_value(SET, 0, [number(3 * n) for n in range(1500)])
        right = []
        for n in range(4500):
            if (n % 2 == 0 and n < 4000) != (n % 3 == 0):
                right.append(listed(number(1 if n % 3 == 0 else 0), number(n)))
        self.assertEqual(run(of(even), of(third), differ(0, 1))[2], [0] + listed(*right))

    def test_a_long_row_is_sorted(self):
        mixed = [number(n * 2999 % 5003) for n in range(5003)]
        rising = [number(n) for n in range(5003)]
        told = run(of(form_value(ROWS, 0, mixed)), in_order(0, 0), in_order(0, 1), form(1), form(2), form(0))
        self.assertEqual(told[3:], [[0] + form_value(ROWS, 0, values) for values in (rising, rising[::-1], mixed)])


class LongAnswers(unittest.TestCase):
    def test_some_hundred_thousand_numbers(self):
        told = form_value(SET, 2, [number(n) for n in range(5000)])
        answers = run(of(told), *[form(0)] * 60)
        self.assertEqual(answers[1:], [[0] + told] * 60)

    def test_one_long_answer(self):
        calls = [new(ROWS), insert(0, 0, TRUE), insert(1, 1, number(1, 2))]
        calls += [join(v, v, 0) for v in range(2, 16)]
        calls += [in_order(16, 0), form(17), form(16), same(16, 17), same(16, 16)]
        half = 2 ** 14
        told = run(*calls)[17:]
        self.assertEqual(told, [[0, 17], [0] + form_value(ROWS, 0, [TRUE] * half + [number(1, 2)] * half),
                                [0] + form_value(ROWS, 0, [TRUE, number(1, 2)] * half), [0, 0], [0, 1]])


class ManyCalls(unittest.TestCase):
    def test_1200_calls_of_the_later_ones(self):
        calls, right, kept = [new(ROWS)], [[0, 0]], []
        for v in range(199):
            calls += [insert(v, v // 2, number(v)), forget(v), room(), same(v + 1, v + 1), at(v + 1, v // 2), count(v)]
            kept.insert(v // 2, number(v))
            used = 1 + sum(2 + len(str(each[1])) for each in kept)
            right += [[0, v + 1], [0], [0, 3, used, 1, v + 2], [0, 1], [0] + number(v), NO_ABSENT]
        calls += [form(199), remove(199, 50, 100), form(200), drop(200, TRUE), change(200, 0, TRUE)]
        right += [[0] + form_value(ROWS, 0, kept), [0, 200], [0] + form_value(ROWS, 0, kept[:50] + kept[150:]), [-3],
                  [0, 201]]
        self.assertEqual(len(calls), 1200)
        self.assertEqual(run(*calls), right)

    def test_1200_calls(self):
        calls = [new(SET)] + [key(v, number(v * 7919 % 1009)) for v in range(600)]
        calls += [count(v) for v in range(599)]
        told = run(*calls)
        self.assertEqual(told[:601], [[0, v] for v in range(601)])
        self.assertEqual(told[601:], [[0, v] for v in range(599)])

    def test_1200_calls_that_are_refused_as_full(self):
        calls = [new(QUEUE), add(0, TRUE, TRUE)] + [join(v, v, 0) for v in range(1, 18)]
        calls += [join(18, 18, 0)] * (1200 - len(calls))
        told = run(*calls)
        self.assertEqual(told[:19], [[0, v] for v in range(19)])
        self.assertEqual(told[19:], [NO_FULL] * len(told[19:]))


class LongVersions(unittest.TestCase):
    def test_a_queue_of_many_entries(self):
        calls = [new(QUEUE), add(0, number(1), FALSE), add(1, number(2), TRUE)]
        calls += [join(v, v, 0) for v in range(2, 17)]
        half = 2 ** 15
        calls += [count(17), rank(17, number(2)), at(17, half - 1), at(17, half), at(17, 2 * half - 1),
                  at(17, 2 * half), take(17, half - 1), at(18, 0), at(18, 1), part(17, half, 2), count(19)]
        told = run(*calls)[18:]
        low, high = listed(number(1), FALSE), listed(number(2), TRUE)
        self.assertEqual(told, [[0, 2 * half], [0, half], [0] + low, [0] + high, [0] + high, NO_ABSENT, [0, 18],
                                [0] + low, [0] + high, [0, 19], [0, 2]])

    def test_a_row_of_many_entries(self):
        half = 2 ** 15
        told = run(new(ROWS), insert(0, 0, FALSE), insert(1, 1, TRUE), *[join(v, v, 0) for v in range(2, 17)],
                   count(17), at(17, 0), at(17, 2 * half - 1), insert(17, half, text("x")), at(18, half), count(18),
                   in_order(18, 0), at(19, half - 1), at(19, half), at(19, 2 * half), remove(19, 1, 2 * half - 1),
                   form(20), change(19, half, FALSE), at(21, half), same(17, 17))[18:]
        self.assertEqual(told, [[0, 2 * half], [0] + FALSE, [0] + TRUE, [0, 18], [0] + text("x"), [0, 2 * half + 1],
                                [0, 19], [0] + FALSE, [0] + TRUE, [0] + text("x"), [0, 20],
                                [0] + form_value(ROWS, 0, [FALSE, text("x")]), [0, 21], [0] + FALSE, [0, 1]])

    def test_rows_changed_often_it_does_not_take_long(self):
        calls = [new(ROWS), insert(0, 0, FALSE), insert(1, 1, TRUE)] + [join(v, v, 0) for v in range(2, 17)]
        for v in range(18, 18 + 230):
            changes = [in_order(17, v % 3), insert(17, 9, TRUE), change(17, 40000, TRUE), remove(17, 30000, 20000)]
            calls += [changes[v % 4], same(17, v), forget(v)]
        start = time.perf_counter()
        told = run(*calls)
        self.assertLess(time.perf_counter() - start, 30)
        self.assertEqual(told[18::3], [[0, v] for v in range(18, 18 + 230)])

    def test_asked_often_it_does_not_take_long(self):
        calls = [new(QUEUE), add(0, TRUE, TRUE)] + [join(v, v, 0) for v in range(1, 18)]
        calls += [add(18, TRUE, FALSE), join(18, 18, 0), rank(18, TRUE), at(18, 99999), take(18, 9)] * 230
        start = time.perf_counter()
        run(*calls)
        self.assertLess(time.perf_counter() - start, 30)


if __name__ == "__main__":
    unittest.main()
