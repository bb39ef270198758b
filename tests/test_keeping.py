"""Promises 3 and 7: what is kept, and what is no more: the calls forget, room and kind."""

import itertools
import unittest

from tests.helper import (
    FALSE, KINDS, MAP, NO_ABSENT, NO_FULL, QUEUE, ROWS, SET, TRUE, add, at, built, change, count, differ, drop, forget,
    form, form_value, get, in_order, insert, join, key, kind_of, last, listed, new, number, of, part, plain_entries,
    put, rank, remove, room, run, same, take, text)

A, B, C = text("a"), text("b"), text("c")
ONE, TWO = number(1), number(2)


def on_one_version(v):
    """Every call on one version."""
    return [put(v, A, A), key(v, A), drop(v, A), get(v, A), count(v), rank(v, A), at(v, 0), part(v, 0, 0),
            join(v, v, 0), join(v, v, 3), add(v, A, A), take(v, 0), insert(v, 0, A), change(v, 0, A), remove(v, 0, 0),
            in_order(v, 0), forget(v), kind_of(v), form(v), same(v, v), differ(v, v)]


class Room(unittest.TestCase):
    def rooms(self, *calls):
        """What room answers at the beginning and behind each call."""
        told = run(room(), *[each for call in calls for each in (call, room())])
        for answer in told[::2]:
            self.assertEqual(answer[:2] + [len(answer)], [0, 3, 5])
        return [tuple(answer[2:]) for answer in told[::2]]

    def test_at_the_beginning(self):
        self.assertEqual(run(room()), [[0, 3, 0, 0, 0]])

    def test_as_it_is_written(self):
        self.assertEqual(run(new(SET), key(0, A), room(), forget(0), room())[2:],
                         [[0, 3, 5, 2, 2], [0], [0, 3, 4, 1, 2]])

    def test_of_a_map(self):
        self.assertEqual(self.rooms(new(MAP), put(0, A, ONE), put(1, B, listed(TRUE)), put(2, A, text("abc")),
                                    drop(3, B), drop(3, C)),
                         [(0, 0, 0), (1, 1, 1), (7, 2, 2), (18, 3, 3), (31, 4, 4), (39, 5, 5), (39, 5, 5)])

    def test_of_a_set(self):
        self.assertEqual(self.rooms(new(SET), key(0, A), key(1, number(-10, 3)), key(2, A), drop(3, A)),
                         [(0, 0, 0), (1, 1, 1), (5, 2, 2), (13, 3, 3), (21, 4, 4), (26, 5, 5)])

    def test_of_a_queue(self):
        self.assertEqual(self.rooms(new(QUEUE), add(0, ONE, A), add(1, ONE, A), take(2, 1), join(2, 3, 0)),
                         [(0, 0, 0), (1, 1, 1), (7, 2, 2), (18, 3, 3), (24, 4, 4), (40, 5, 5)])

    def test_of_a_row(self):
        self.assertEqual(self.rooms(new(ROWS), insert(0, 0, A), insert(1, 0, TRUE), change(2, 0, listed(A, ONE)),
                                    remove(3, 0, 1), in_order(3, 1), part(5, 1, 1), join(1, 3, 0), remove(3, 0, 2)),
                         [(0, 0, 0), (1, 1, 1), (5, 2, 2), (11, 3, 3), (21, 4, 4), (25, 5, 5), (35, 6, 6),
                          (39, 7, 7), (52, 8, 8), (53, 9, 9)])

    def test_of_each_sort_of_value(self):
        for value, weight in ((TRUE, 1), (FALSE, 1), (number(0), 2), (number(-12, 347), 5), (text(""), 1),
                              (text("abc"), 4), (listed(), 1), (listed(TRUE, text("a"), listed(number(-7))), 7),
                              (number(-2 ** 63, 2 ** 63 - 1), 38)):
            self.assertEqual(last(new(MAP), put(0, value, TRUE), room())[2], 1 + 1 + 1 + weight + 1)
            self.assertEqual(last(new(MAP), put(0, TRUE, value), room())[2], 1 + 1 + 1 + weight + 1)
            self.assertEqual(last(new(SET), key(0, value), room())[2], 1 + 1 + 1 + weight)
            self.assertEqual(last(new(QUEUE), add(0, value, TRUE), room())[2], 1 + 1 + 1 + weight + 1)
            self.assertEqual(last(new(QUEUE), add(0, TRUE, value), room())[2], 1 + 1 + 1 + weight + 1)
            self.assertEqual(last(new(ROWS), insert(0, 0, value), room())[2], 1 + 1 + 1 + weight)

    def test_of_forms(self):
        self.assertEqual(self.rooms(of(form_value(MAP, 1, [(B, ONE), (A, TRUE)])), of(form_value(ROWS, 0, [A, A])),
                                    of(form_value(SET, 0, [B, A])), of(TRUE)),
                         [(0, 0, 0), (10, 1, 1), (17, 2, 2), (17, 2, 2), (17, 2, 2)])

    def test_forgotten(self):
        self.assertEqual(self.rooms(new(SET), key(0, A), key(1, B), forget(1), forget(1), forget(0), key(2, C),
                                    forget(2), forget(3), new(SET)),
                         [(0, 0, 0), (1, 1, 1), (5, 2, 2), (12, 3, 3), (8, 2, 3), (8, 2, 3), (7, 1, 3), (17, 2, 4),
                          (10, 1, 4), (0, 0, 4), (1, 1, 5)])

    def test_asking_changes_nothing(self):
        calls = [new(MAP), put(0, A, ONE), new(SET), key(2, A), new(ROWS), insert(4, 0, A), new(QUEUE), add(6, A, A)]
        there = last(*calls, room())
        for v in range(8):
            for call in (count(v), get(v, A), rank(v, A), at(v, 0), kind_of(v), form(v), same(v, 1), differ(v, 1),
                         differ(v, 3), room(), [23, 0, 2, 0, 0, 2, 0, 1]):
                self.assertEqual(last(*calls, call, room()), there)


class Kind(unittest.TestCase):
    def test_each(self):
        for kind, order in KINDS:
            calls, v = built(kind, order, plain_entries(kind, [A, B]))
            self.assertEqual(run(*calls, kind_of(0), kind_of(v))[-2:], [[0, 2, kind, order]] * 2)

    def test_of_what_changes_make(self):
        for kind, order in KINDS:
            calls, v = built(kind, order, plain_entries(kind, [A, B]))
            calls += [part(v, 0, 1), join(v, v, 0), of(last(*calls, form(v))[1:])]
            self.assertEqual(run(*calls, *[kind_of(v + turn) for turn in (1, 2, 3)])[-3:], [[0, 2, kind, order]] * 3)

    def test_of_what_is_not_there(self):
        self.assertEqual(run(kind_of(0), new(SET), kind_of(1), kind_of(0)),
                         [NO_ABSENT, [0, 0], NO_ABSENT, [0, 2, SET, 0]])


class Forget(unittest.TestCase):
    def test_done(self):
        for kind, order in KINDS:
            calls, v = built(kind, order, plain_entries(kind, [A, B]))
            self.assertEqual(last(*calls, forget(v)), [0])

    def test_it_is_then_absent_for_every_call(self):
        for kind, order in KINDS:
            calls, v = built(kind, order, plain_entries(kind, [A, B]))
            told = run(*calls, forget(v), *on_one_version(v))[len(calls) + 1:]
            self.assertEqual(told, [NO_ABSENT] * len(on_one_version(v)))
            for call in (join, same, differ):
                more = [0] if call == join else []
                told = run(*calls, forget(v), call(v, 0, *more), call(0, v, *more))[-2:]
                self.assertEqual(told, [NO_ABSENT] * 2)

    def test_twice(self):
        self.assertEqual(run(new(SET), forget(0), forget(0), room()), [[0, 0], [0], NO_ABSENT, [0, 3, 0, 0, 1]])

    def test_of_what_never_was(self):
        self.assertEqual(run(forget(0), new(SET), forget(1), forget(4294967295), room()),
                         [NO_ABSENT, [0, 0], NO_ABSENT, NO_ABSENT, [0, 3, 1, 1, 1]])

    def test_its_number_is_never_given_again(self):
        calls = [each for v in range(300) for each in (new(v % 4), forget(v))]
        told = run(*calls, room(), new(SET), count(299), count(300))
        self.assertEqual(told[:600:2], [[0, v] for v in range(300)])
        self.assertEqual(told[1:600:2], [[0]] * 300)
        self.assertEqual(told[600:], [[0, 3, 0, 0, 300], [0, 300], NO_ABSENT, [0, 0]])

    def test_the_last_one_of_several(self):
        self.assertEqual(run(new(SET), new(SET), forget(1), new(SET), forget(2), forget(0), new(MAP), kind_of(3)),
                         [[0, 0], [0, 1], [0], [0, 2], [0], [0], [0, 3], [0, 2, MAP, 0]])

    def test_the_others_stay(self):
        for kind, order in KINDS:
            calls, v = built(kind, order, plain_entries(kind, [A, B, C, listed(A)]))
            calls += [part(v, 1, 2), join(v, v, 0)]
            forms = [last(*calls, form(u)) for u in range(v + 3)]
            for gone in itertools.chain([[u] for u in range(v + 3)], itertools.combinations(range(v + 3), 4)):
                told = run(*calls, *[forget(u) for u in gone], *[form(u) for u in range(v + 3)])[-v - 3:]
                self.assertEqual(told, [NO_ABSENT if u in gone else forms[u] for u in range(v + 3)])

    def test_those_made_from_it_can_be_changed_on(self):
        told = run(new(ROWS), insert(0, 0, A), insert(1, 1, B), forget(1), forget(0), insert(2, 1, C), form(3), form(2))
        self.assertEqual(told[5:], [[0, 3], [0] + form_value(ROWS, 0, [A, C, B]), [0] + form_value(ROWS, 0, [A, B])])

    def test_its_room_is_free_again(self):
        big = text([0] * 4000)
        calls = [new(QUEUE), add(0, TRUE, big)] + [join(v, v, 0) for v in range(1, 7)]
        entry = 1 + 1 + 4001
        used = 1 + 7 + entry * 127
        told = run(*calls, room(), join(7, 7, 0), forget(6), room(), join(7, 7, 0), room(), join(5, 7, 0), forget(8),
                   room(), forget(7), room(), join(7, 7, 0))
        less = used - 1 - 32 * entry
        self.assertEqual(told[8:], [[0, 3, used, 8, 8], NO_FULL, [0], [0, 3, less, 7, 8], [0, 8],
                                    [0, 3, less + 1 + 128 * entry, 8, 9], NO_FULL, [0], [0, 3, less, 7, 9], [0],
                                    [0, 3, less - 1 - 64 * entry, 6, 9], NO_ABSENT])

    def test_there_is_place_for_another_of_1024(self):
        calls = [new(SET)] * 1024
        told = run(*calls, room(), new(SET), forget(512), room(), key(0, A), new(SET), room(), forget(1024),
                   forget(0), new(MAP), new(MAP), new(MAP), room())[1024:]
        self.assertEqual(told, [[0, 3, 1024, 1024, 1024], NO_FULL, [0], [0, 3, 1023, 1023, 1024], [0, 1024], NO_FULL,
                                [0, 3, 1027, 1024, 1025], [0], [0], [0, 1025], [0, 1026], NO_FULL,
                                [0, 3, 1024, 1024, 1027]])


if __name__ == "__main__":
    unittest.main()
