"""Long inputs: long values, many calls, long versions, and that these don't take long."""

import time
import unittest

from tests.helper import (
    FALSE, MAP, NO_ABSENT, NO_FULL, NO_RANGE, QUEUE, SET, TRUE, add, at, count, get, join, key, listed, nested, new,
    number, part, put, rank, run, run_on, shelf_with_rows, take, text)


class LongValues(unittest.TestCase):
    def test_some_thousand_numbers_in_one_value(self):
        value = listed(*[text([turn]) for turn in range(256)] * 5)
        other = listed(*[text([turn]) for turn in range(256)] * 4, *[text([turn]) for turn in range(255)], text([0]))
        self.assertEqual(run(new(SET), key(0, value), get(1, value), rank(1, other), rank(1, value), at(1, 0))[1:],
                         [[0, 1], [0] + value, [0, 0], [0, 0], [0] + value])

    def test_the_longest_row(self):
        self.assertEqual(run(new(SET), key(0, listed(*[FALSE] * 7949)))[1], NO_RANGE)
        self.assertEqual(run(new(MAP), put(0, listed(*[TRUE] * 3900), listed(*[FALSE] * 4000)))[1], [0, 1])

    def test_nested_up_to_60(self):
        for depth in range(1, 61):
            right = [0, 1] if depth <= 40 else NO_RANGE
            self.assertEqual(run(new(SET), key(0, nested(depth)))[1], right)
        self.assertEqual(run(new(SET), key(0, nested(39)), rank(1, nested(40)), rank(1, nested(38)))[2:],
                         [[0, 1], [0, 0]])


class ManyCalls(unittest.TestCase):
    def test_1200_calls(self):
        calls = [new(SET)] + [key(v, number(v * 7919 % 1009)) for v in range(600)]
        calls += [count(v) for v in range(599)]
        told = run(*calls)
        self.assertEqual(told[:601], [[0, v] for v in range(601)])
        self.assertEqual(told[601:], [[0, v] for v in range(599)])

    def test_1200_calls_that_are_refused_as_full(self):
        calls = [new(QUEUE), add(0, TRUE, TRUE)] + [join(v, v, 0) for v in range(1, 18)]
        calls += [join(18, 18, 0)] * (1200 - len(calls))
        told = run(*calls)
        self.assertEqual(told[:19], [[0, v] for v in range(19)])
        self.assertEqual(told[19:], [NO_FULL] * len(told[19:]))


class LongVersions(unittest.TestCase):
    def test_a_queue_of_many_entries(self):
        calls = [new(QUEUE), add(0, number(1), FALSE), add(1, number(2), TRUE)]
        calls += [join(v, v, 0) for v in range(2, 17)]
        half = 2 ** 15
        calls += [count(17), rank(17, number(2)), at(17, half - 1), at(17, half), at(17, 2 * half - 1),
                  at(17, 2 * half), take(17, half - 1), at(18, 0), at(18, 1), part(17, half, 2), count(19)]
        told = run(*calls)[18:]
        low, high = listed(number(1), FALSE), listed(number(2), TRUE)
        self.assertEqual(told, [[0, 2 * half], [0, half], [0] + low, [0] + high, [0] + high, NO_ABSENT, [0, 18],
                                [0] + low, [0] + high, [0, 19], [0, 2]])

    def test_a_row_of_many_entries(self):
        shelf = shelf_with_rows([FALSE, TRUE])
        told = run_on(shelf, *[join(v, v, 0) for v in range(16)], count(16), at(16, 0), at(16, 2 ** 17 - 1))
        self.assertEqual(told[16:], [[0, 2 ** 17], [0] + FALSE, [0] + TRUE])

    def test_asked_often_it_does_not_take_long(self):
        calls = [new(QUEUE), add(0, TRUE, TRUE)] + [join(v, v, 0) for v in range(1, 18)]
        calls += [add(18, TRUE, FALSE), join(18, 18, 0), rank(18, TRUE), at(18, 99999), take(18, 9)] * 230
        start = time.perf_counter()
        run(*calls)
        self.assertLess(time.perf_counter() - start, 30)


if __name__ == "__main__":
    unittest.main()
