"""Room at its edge, and how many versions are kept."""

import unittest

from tests.helper import (
    FALSE, MAP, NO_FULL, NOTHING, ORDERS, QUEUE, ROWS, SET, TRUE, add, asked, built, change, count, drop, form_value,
    forget, get, in_order, insert, join, key, listed, nested, new, number, of, part, put, remove, room, run, take, text,
    told_entries)

MOST = 1000000
BIG = text([0] * 4094)
BIG_ENTRY = 1 + 1 + 4095

AB, ABC = text("ab"), text("abc")
TENTH = number(-1, 10)
PAIR = listed(TENTH, FALSE)


def filling(first, room):
    """Calls that take so much room, if `first` is the next version's number; at least some 800,000."""
    calls = [new(QUEUE), add(first, TRUE, BIG)]
    used = 1 + 1 + BIG_ENTRY
    for turn in range(6):
        calls.append(join(first + 1 + turn, first + 1 + turn, 0))
        used += 1 + BIG_ENTRY * 2 ** (turn + 1)
    calls.append(new(MAP))
    used += 1
    while room - used > 1 + BIG_ENTRY:
        many = min(64, (room - used - 1) // BIG_ENTRY)
        calls.append(part(first + 7, 0, many))
        used += 1 + BIG_ENTRY * many
    rest = room - used
    if rest >= 4:
        calls.append(put(first + 8, TRUE, text([0] * (rest - 4))))
    else:
        calls += [new(SET)] * rest
    return calls


class Edge(unittest.TestCase):
    def check(self, before, used, call, room):
        """A call that makes a version of that room, with just so much left, and with 1 less."""
        for left in (room, room - 1):
            calls = before + filling(len(before), MOST - used - left)
            told = run(*calls, call, new(SET))
            self.assertEqual(told[:len(calls)], [[0, v] for v in range(len(calls))])
            if left == room:
                self.assertEqual(told[-2:], [[0, len(calls)], NO_FULL], call)
            else:
                self.assertEqual(told[-2], NO_FULL, call)
                self.assertEqual(told[-1], NO_FULL if left == 0 else [0, len(calls)], call)

    def test_new(self):
        for kind in (MAP, SET, QUEUE, ROWS):
            self.check([], 0, new(kind), 1)

    def test_put(self):
        self.check([new(MAP)], 1, put(0, TRUE, TRUE), 1 + 3)
        self.check([new(MAP)], 1, put(0, AB, ABC), 1 + 1 + 3 + 4)
        self.check([new(MAP)], 1, put(0, TENTH, PAIR), 1 + 1 + 3 + 5)
        self.check([new(MAP), put(0, AB, TRUE)], 1 + 6, put(1, TRUE, TRUE), 1 + 5 + 3)

    def test_put_in_the_place_of_an_entry(self):
        self.check([new(MAP), put(0, AB, ABC)], 1 + 9, put(1, AB, TRUE), 1 + 1 + 3 + 1)
        self.check([new(MAP), put(0, AB, TRUE)], 1 + 6, put(1, AB, ABC), 1 + 1 + 3 + 4)
        self.check([new(MAP), put(0, AB, TRUE)], 1 + 6, put(1, AB, TRUE), 1 + 1 + 3 + 1)

    def test_key(self):
        self.check([new(SET)], 1, key(0, ABC), 1 + 1 + 4)
        self.check([new(SET), key(0, ABC)], 1 + 6, key(1, PAIR), 1 + 5 + 6)
        self.check([new(SET), key(0, ABC)], 1 + 6, key(1, ABC), 1 + 5)

    def test_drop(self):
        self.check([new(SET), key(0, ABC), key(1, PAIR)], 1 + 6 + 12, drop(2, PAIR), 6)
        self.check([new(MAP), put(0, AB, ABC), put(1, TRUE, TRUE)], 1 + 9 + 12, drop(2, AB), 1 + 3)
        self.check([new(MAP), put(0, AB, ABC)], 1 + 9, drop(1, AB), 1)

    def test_range(self):
        before = [new(SET), key(0, TRUE), key(1, ABC), key(2, PAIR)]
        used = 1 + 3 + 8 + 14
        self.check(before, used, part(3, 0, 3), 14)
        self.check(before, used, part(3, 1, 1), 1 + 5)
        self.check(before, used, part(3, 1, 2), 1 + 5 + 6)
        self.check(before, used, part(3, 3, 0), 1)

    def test_join_of_maps(self):
        before = [new(MAP), put(0, TRUE, ABC), put(1, AB, AB), new(MAP), put(3, AB, ABC), put(4, PAIR, TRUE)]
        used = 1 + 7 + 14 + 1 + 9 + 16
        self.check(before, used, join(2, 5, 0), 1 + 6 + 8 + 7)
        self.check(before, used, join(2, 5, 1), 1 + 7)
        self.check(before, used, join(2, 5, 2), 1 + 6)
        self.check(before, used, join(2, 5, 3), 1 + 6 + 7)
        self.check(before, used, join(2, 2, 0), 14)
        self.check(before, used, join(2, 2, 3), 1)

    def test_join_of_sets(self):
        before = [new(SET), key(0, TRUE), key(1, AB), new(SET), key(3, AB), key(4, PAIR)]
        used = 1 + 3 + 7 + 1 + 5 + 11
        for how, room in ((0, 1 + 2 + 4 + 6), (1, 1 + 4), (2, 1 + 2), (3, 1 + 2 + 6)):
            self.check(before, used, join(2, 5, how), room)

    def test_join_of_queues(self):
        before = [new(QUEUE), add(0, TRUE, AB), add(1, AB, TRUE), new(QUEUE), add(3, AB, PAIR)]
        used = 1 + 6 + 11 + 1 + 10
        self.check(before, used, join(2, 4, 0), 11 + 9)
        self.check(before, used, join(2, 2, 0), 1 + 10 + 10)
        self.check(before, used, join(3, 3, 0), 1)

    def test_join_of_rows(self):
        before, v = built(ROWS, 0, [AB, PAIR, TRUE])
        more, u = built(ROWS, 0, [TENTH, AB], v + 1)
        used = 1 + 5 + 11 + 13 + 1 + 5 + 9
        self.check(before + more, used, join(v, u, 0), 13 + 8)
        self.check(before + more, used, join(v, v, 0), 1 + 12 + 12)
        self.check(before + more, used, join(0, 0, 0), 1)

    def test_range_of_rows(self):
        before, v = built(ROWS, 0, [AB, PAIR, TRUE])
        used = 1 + 5 + 11 + 13
        for i, many, room_of in ((0, 3, 13), (0, 2, 11), (1, 2, 9), (1, 1, 7), (2, 1, 3), (3, 0, 1)):
            self.check(before, used, part(v, i, many), room_of)

    def test_insert(self):
        self.check([new(ROWS)], 1, insert(0, 0, ABC), 1 + 1 + 4)
        before, v = built(ROWS, 0, [AB, TRUE])
        for i in range(3):
            self.check(before, 1 + 5 + 7, insert(v, i, PAIR), 7 + 6)

    def test_change(self):
        before, v = built(ROWS, 0, [AB, PAIR, TRUE])
        used = 1 + 5 + 11 + 13
        self.check(before, used, change(v, 0, ABC), 13 + 1)
        self.check(before, used, change(v, 1, TENTH), 13 - 2)
        self.check(before, used, change(v, 2, TRUE), 13)

    def test_remove(self):
        before, v = built(ROWS, 0, [AB, PAIR, TRUE])
        used = 1 + 5 + 11 + 13
        for i, many, room_of in ((0, 0, 13), (3, 0, 13), (0, 1, 9), (1, 1, 7), (2, 1, 11), (0, 2, 3), (0, 3, 1)):
            self.check(before, used, remove(v, i, many), room_of)

    def test_sorted(self):
        before, v = built(ROWS, 0, [PAIR, AB, TRUE, AB])
        used = 1 + 7 + 11 + 13 + 17
        for order in ORDERS:
            self.check(before, used, in_order(v, order), 17)
            self.check([new(ROWS)], 1, in_order(0, order), 1)

    def test_of(self):
        self.check([], 0, of(form_value(MAP, 0, [(AB, ABC), (PAIR, TRUE)])), 1 + 8 + 7)
        self.check([], 0, of(form_value(SET, 1, [PAIR, AB])), 1 + 6 + 4)
        self.check([], 0, of(form_value(QUEUE, 2, [(AB, ABC), (AB, ABC)])), 1 + 8 + 8)
        self.check([], 0, of(form_value(ROWS, 0, [PAIR, AB, PAIR])), 1 + 6 + 4 + 6)
        for kind in (MAP, SET, QUEUE, ROWS):
            self.check([], 0, of(form_value(kind, 0, [])), 1)

    def test_add(self):
        self.check([new(QUEUE)], 1, add(0, AB, ABC), 1 + 1 + 3 + 4)
        self.check([new(QUEUE), add(0, AB, ABC)], 1 + 9, add(1, AB, TENTH), 9 + 1 + 3 + 3)

    def test_take(self):
        before = [new(QUEUE), add(0, AB, ABC), add(1, TRUE, TRUE)]
        used = 1 + 9 + 12
        self.check(before, used, take(2, 0), 12)
        self.check(before, used, take(2, 1), 9)
        self.check(before, used, take(2, 2), 1)

    def test_orders_take_the_same_room(self):
        for order in ORDERS:
            self.check([new(SET, order), key(0, AB)], 1 + 5, key(1, PAIR), 5 + 6)


class FullShelf(unittest.TestCase):
    def test_a_full_shelf_still_answers(self):
        calls = [new(MAP), put(0, TRUE, ABC)]
        calls += filling(2, MOST - 8)
        told = run(*calls, new(SET), put(1, TRUE, TRUE), drop(1, TRUE), drop(1, FALSE), get(1, TRUE), count(1),
                   *asked(1, 1), join(1, 1, 2), put(0, FALSE, FALSE))
        self.assertEqual(told[len(calls):], [NO_FULL, NO_FULL, NO_FULL, NOTHING, [0] + ABC, [0, 1]]
                         + told_entries([listed(TRUE, ABC)]) + [NO_FULL, NO_FULL])

    def test_what_is_too_much_takes_nothing(self):
        calls = [new(QUEUE), add(0, TRUE, TRUE)]
        calls += filling(2, MOST - 5 - 7)
        there = len(calls)
        told = run(*calls, add(1, TRUE, AB), add(1, TRUE, AB), add(1, TRUE, TRUE), new(SET))
        self.assertEqual(told[there:], [NO_FULL, NO_FULL, [0, there], NO_FULL])

    def test_a_full_shelf_still_refuses_as_told(self):
        calls = [new(ROWS), insert(0, 0, TRUE)]
        calls += filling(2, MOST - 4)
        there = [0, 3, MOST, len(calls), len(calls)]
        told = run(*calls, room(), of(form_value(SET, 0, [AB, AB])), of(TRUE), of(form_value(ROWS, 0, [nested(41)])),
                   of(form_value(ROWS, 0, [])), insert(1, 2, TRUE), insert(1, 0, TRUE), in_order(1, 0), remove(1, 0, 1),
                   room())
        self.assertEqual(told[len(calls):], [there, [2, 1], NOTHING, [2, 0], NO_FULL, [-2], NO_FULL, NO_FULL, NO_FULL,
                                             there])

    def test_with_forget_between(self):
        calls = [new(ROWS), insert(0, 0, AB), insert(1, 0, PAIR)]
        used = 1 + 5 + 11
        calls += filling(3, MOST - used)
        v = len(calls)
        told = run(*calls, room(), new(SET), forget(0), new(SET), new(SET), forget(1), in_order(2, 0), change(2, 0, AB),
                   remove(2, 0, 1), room(), forget(2), room(), of(form_value(ROWS, 0, [PAIR, AB])), room(), new(ROWS))
        self.assertEqual(told[v:], [
            [0, 3, MOST, v, v], NO_FULL, [0], [0, v], NO_FULL, [0], NO_FULL, NO_FULL, [0, v + 1],
            [0, 3, MOST, v, v + 2], [0], [0, 3, MOST - 11, v - 1, v + 2], [0, v + 2], [0, 3, MOST, v, v + 3], NO_FULL])

    def test_one_after_another_is_forgotten(self):
        calls = [new(QUEUE), add(0, TRUE, BIG)] + [join(v, v, 0) for v in range(1, 7)]
        whole = 1 + 64 * BIG_ENTRY
        used = 1 + sum(1 + BIG_ENTRY * 2 ** turn for turn in range(7))
        calls.append(part(7, 0, 64))
        right = [[0, v] for v in range(9)]
        for v in range(9, 209):
            calls += [part(7, 0, 64), forget(v - 1), part(7, 0, 64), room()]
            right += [NO_FULL, [0], [0, v], [0, 3, used + whole, 9, v + 1]]
        self.assertEqual(run(*calls), right)

    def test_1024_versions_of_all_ways(self):
        calls = [new(ROWS), insert(0, 0, TRUE)] + [new(SET)] * 1022
        for call in (new(MAP), insert(1, 0, TRUE), change(1, 0, TRUE), remove(1, 0, 1), in_order(1, 2), part(1, 0, 1),
                     join(1, 1, 0), of(form_value(QUEUE, 1, [(TRUE, TRUE)])), key(2, TRUE)):
            told = run(*calls, call, forget(1023), call, call, forget(1024), call, forget(1023))[1024:]
            self.assertEqual(told, [NO_FULL, [0], [0, 1024], NO_FULL, [0], [0, 1025], [-2]], call)

    def test_1024_versions(self):
        for kind in (MAP, SET, QUEUE, ROWS):
            told = run(*[new(kind)] * 1030, count(1023), count(1024))
            self.assertEqual(told[:1024], [[0, v] for v in range(1024)])
            self.assertEqual(told[1024:], [NO_FULL] * 6 + [[0, 0], [-2]])


if __name__ == "__main__":
    unittest.main()
