"""Room at its edge, and how many versions are kept."""

import unittest

from tests.helper import (
    FALSE, MAP, NO_FULL, NOTHING, ORDERS, QUEUE, ROWS, SET, TRUE, add, asked, count, drop, get, join, key, listed, new,
    number, part, put, run, run_on, shelf_with_rows, take, text, told_entries)

MOST = 1000000
BIG = text([0] * 4094)
BIG_ENTRY = 1 + 1 + 4095

AB, ABC = text("ab"), text("abc")
TENTH = number(-1, 10)
PAIR = listed(TENTH, FALSE)


def filling(first, room):
    """Calls that take so much room, if `first` is the next version's number; at least some 800,000."""
    calls = [new(QUEUE), add(first, TRUE, BIG)]
    used = 1 + 1 + BIG_ENTRY
    for turn in range(6):
        calls.append(join(first + 1 + turn, first + 1 + turn, 0))
        used += 1 + BIG_ENTRY * 2 ** (turn + 1)
    calls.append(new(MAP))
    used += 1
    while room - used > 1 + BIG_ENTRY:
        many = min(64, (room - used - 1) // BIG_ENTRY)
        calls.append(part(first + 7, 0, many))
        used += 1 + BIG_ENTRY * many
    rest = room - used
    if rest >= 4:
        calls.append(put(first + 8, TRUE, text([0] * (rest - 4))))
    else:
        calls += [new(SET)] * rest
    return calls


class Edge(unittest.TestCase):
    def check(self, before, used, call, room):
        """A call that makes a version of that room, with just so much left, and with 1 less."""
        for left in (room, room - 1):
            calls = before + filling(len(before), MOST - used - left)
            told = run(*calls, call, new(SET))
            self.assertEqual(told[:len(calls)], [[0, v] for v in range(len(calls))])
            if left == room:
                self.assertEqual(told[-2:], [[0, len(calls)], NO_FULL], call)
            else:
                self.assertEqual(told[-2], NO_FULL, call)
                self.assertEqual(told[-1], NO_FULL if left == 0 else [0, len(calls)], call)

    def test_new(self):
        for kind in (MAP, SET, QUEUE, ROWS):
            self.check([], 0, new(kind), 1)

    def test_put(self):
        self.check([new(MAP)], 1, put(0, TRUE, TRUE), 1 + 3)
        self.check([new(MAP)], 1, put(0, AB, ABC), 1 + 1 + 3 + 4)
        self.check([new(MAP)], 1, put(0, TENTH, PAIR), 1 + 1 + 3 + 5)
        self.check([new(MAP), put(0, AB, TRUE)], 1 + 6, put(1, TRUE, TRUE), 1 + 5 + 3)

    def test_put_in_the_place_of_an_entry(self):
        self.check([new(MAP), put(0, AB, ABC)], 1 + 9, put(1, AB, TRUE), 1 + 1 + 3 + 1)
        self.check([new(MAP), put(0, AB, TRUE)], 1 + 6, put(1, AB, ABC), 1 + 1 + 3 + 4)
        self.check([new(MAP), put(0, AB, TRUE)], 1 + 6, put(1, AB, TRUE), 1 + 1 + 3 + 1)

    def test_key(self):
        self.check([new(SET)], 1, key(0, ABC), 1 + 1 + 4)
        self.check([new(SET), key(0, ABC)], 1 + 6, key(1, PAIR), 1 + 5 + 6)
        self.check([new(SET), key(0, ABC)], 1 + 6, key(1, ABC), 1 + 5)

    def test_drop(self):
        self.check([new(SET), key(0, ABC), key(1, PAIR)], 1 + 6 + 12, drop(2, PAIR), 6)
        self.check([new(MAP), put(0, AB, ABC), put(1, TRUE, TRUE)], 1 + 9 + 12, drop(2, AB), 1 + 3)
        self.check([new(MAP), put(0, AB, ABC)], 1 + 9, drop(1, AB), 1)

    def test_range(self):
        before = [new(SET), key(0, TRUE), key(1, ABC), key(2, PAIR)]
        used = 1 + 3 + 8 + 14
        self.check(before, used, part(3, 0, 3), 14)
        self.check(before, used, part(3, 1, 1), 1 + 5)
        self.check(before, used, part(3, 1, 2), 1 + 5 + 6)
        self.check(before, used, part(3, 3, 0), 1)

    def test_join_of_maps(self):
        before = [new(MAP), put(0, TRUE, ABC), put(1, AB, AB), new(MAP), put(3, AB, ABC), put(4, PAIR, TRUE)]
        used = 1 + 7 + 14 + 1 + 9 + 16
        self.check(before, used, join(2, 5, 0), 1 + 6 + 8 + 7)
        self.check(before, used, join(2, 5, 1), 1 + 7)
        self.check(before, used, join(2, 5, 2), 1 + 6)
        self.check(before, used, join(2, 5, 3), 1 + 6 + 7)
        self.check(before, used, join(2, 2, 0), 14)
        self.check(before, used, join(2, 2, 3), 1)

    def test_join_of_sets(self):
        before = [new(SET), key(0, TRUE), key(1, AB), new(SET), key(3, AB), key(4, PAIR)]
        used = 1 + 3 + 7 + 1 + 5 + 11
        for how, room in ((0, 1 + 2 + 4 + 6), (1, 1 + 4), (2, 1 + 2), (3, 1 + 2 + 6)):
            self.check(before, used, join(2, 5, how), room)

    def test_join_of_queues(self):
        before = [new(QUEUE), add(0, TRUE, AB), add(1, AB, TRUE), new(QUEUE), add(3, AB, PAIR)]
        used = 1 + 6 + 11 + 1 + 10
        self.check(before, used, join(2, 4, 0), 11 + 9)
        self.check(before, used, join(2, 2, 0), 1 + 10 + 10)
        self.check(before, used, join(3, 3, 0), 1)

    def test_join_of_rows(self):
        for left, answers in ((21, [[0, 2], NO_FULL]), (20, [NO_FULL, [0, 2]])):
            shelf = shelf_with_rows([AB, PAIR, TRUE], [TENTH, AB])
            shelf.used = MOST - left
            self.assertEqual(run_on(shelf, join(0, 1, 0), new(SET)), answers)

    def test_range_of_rows(self):
        shelf = shelf_with_rows([AB, PAIR, TRUE])
        shelf.used = MOST - (1 + 6 + 2)
        self.assertEqual(run_on(shelf, part(0, 0, 2), part(0, 1, 2), new(SET)), [NO_FULL, [0, 1], NO_FULL])

    def test_add(self):
        self.check([new(QUEUE)], 1, add(0, AB, ABC), 1 + 1 + 3 + 4)
        self.check([new(QUEUE), add(0, AB, ABC)], 1 + 9, add(1, AB, TENTH), 9 + 1 + 3 + 3)

    def test_take(self):
        before = [new(QUEUE), add(0, AB, ABC), add(1, TRUE, TRUE)]
        used = 1 + 9 + 12
        self.check(before, used, take(2, 0), 12)
        self.check(before, used, take(2, 1), 9)
        self.check(before, used, take(2, 2), 1)

    def test_orders_take_the_same_room(self):
        for order in ORDERS:
            self.check([new(SET, order), key(0, AB)], 1 + 5, key(1, PAIR), 5 + 6)


class FullShelf(unittest.TestCase):
    def test_a_full_shelf_still_answers(self):
        calls = [new(MAP), put(0, TRUE, ABC)]
        calls += filling(2, MOST - 8)
        told = run(*calls, new(SET), put(1, TRUE, TRUE), drop(1, TRUE), drop(1, FALSE), get(1, TRUE), count(1),
                   *asked(1, 1), join(1, 1, 2), put(0, FALSE, FALSE))
        self.assertEqual(told[len(calls):], [NO_FULL, NO_FULL, NO_FULL, NOTHING, [0] + ABC, [0, 1]]
                         + told_entries([listed(TRUE, ABC)]) + [NO_FULL, NO_FULL])

    def test_what_is_too_much_takes_nothing(self):
        calls = [new(QUEUE), add(0, TRUE, TRUE)]
        calls += filling(2, MOST - 5 - 7)
        there = len(calls)
        told = run(*calls, add(1, TRUE, AB), add(1, TRUE, AB), add(1, TRUE, TRUE), new(SET))
        self.assertEqual(told[there:], [NO_FULL, NO_FULL, [0, there], NO_FULL])

    def test_1024_versions(self):
        for kind in (MAP, SET, QUEUE, ROWS):
            told = run(*[new(kind)] * 1030, count(1023), count(1024))
            self.assertEqual(told[:1024], [[0, v] for v in range(1024)])
            self.assertEqual(told[1024:], [NO_FULL] * 6 + [[0, 0], [-2]])


if __name__ == "__main__":
    unittest.main()
