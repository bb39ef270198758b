"""Promise 7: the order of the refusals, and that what is refused or asks changes nothing."""

import unittest

from keptversions import shelf as shelves
from tests.helper import (
    FALSE, LAST_NUMBER, MAP, NOTHING, NO_ABSENT, NO_FULL, NO_KIND, NO_RANGE, QUEUE, ROWS, SET, TRUE, add, at, before,
    change, count, differ, drop, forget, form, form_value, get, in_order, insert, join, key, kind_of, last, nested, new,
    number, of, part, put, rank, remove, room, run, run_on, same, take)

BAD = number(2, 4)
KINDS = (MAP, SET, QUEUE, ROWS)


class Kinds(unittest.TestCase):
    def check(self, call, kinds):
        for kind in KINDS:
            told = run(new(kind), call, new(kind))
            if kind in kinds:
                self.assertNotEqual(told[1], NO_KIND)
            else:
                self.assertEqual(told[1:], [NO_KIND, [0, 1]])
                self.assertEqual(run(new(kind), call, room())[2], [0, 3, 1, 1, 1])

    def test_each_call_is_for_its_kinds(self):
        self.check(put(0, TRUE, TRUE), (MAP,))
        self.check(key(0, TRUE), (SET,))
        self.check(drop(0, TRUE), (MAP, SET))
        self.check(get(0, TRUE), (MAP, SET))
        self.check(count(0), KINDS)
        self.check(rank(0, TRUE), (MAP, SET, QUEUE))
        self.check(at(0, 0), KINDS)
        self.check(part(0, 0, 0), KINDS)
        self.check(join(0, 0, 0), KINDS)
        self.check(join(0, 0, 1), (MAP, SET))
        self.check(add(0, TRUE, TRUE), (QUEUE,))
        self.check(take(0, 0), (QUEUE,))
        self.check(insert(0, 0, TRUE), (ROWS,))
        self.check(change(0, 0, TRUE), (ROWS,))
        self.check(remove(0, 0, 0), (ROWS,))
        self.check(in_order(0, 0), (ROWS,))
        self.check(forget(0), KINDS)
        self.check(kind_of(0), KINDS)
        self.check(form(0), KINDS)
        self.check(same(0, 0), KINDS)
        self.check(differ(0, 0), (MAP, SET))


class Order(unittest.TestCase):
    def test_range_before_absent(self):
        for call in (put(5, BAD, TRUE), put(5, TRUE, BAD), key(5, BAD), drop(5, BAD), get(5, BAD), rank(5, BAD),
                     add(5, BAD, TRUE), add(5, TRUE, BAD), join(5, 5, 4), join(0, 5, 4), join(5, 0, 4),
                     at(5, LAST_NUMBER + 1), part(5, 0, LAST_NUMBER + 1), part(5, LAST_NUMBER + 1, 0),
                     take(5, LAST_NUMBER + 1), join(5, LAST_NUMBER + 1, 0), join(LAST_NUMBER + 1, 5, 0),
                     insert(5, 0, BAD), insert(5, LAST_NUMBER + 1, TRUE), change(5, 0, BAD), in_order(5, 3),
                     change(5, LAST_NUMBER + 1, TRUE), remove(5, LAST_NUMBER + 1, 0), remove(5, 0, LAST_NUMBER + 1),
                     in_order(5, LAST_NUMBER + 1), same(5, LAST_NUMBER + 1), same(LAST_NUMBER + 1, 5),
                     differ(5, LAST_NUMBER + 1), differ(LAST_NUMBER + 1, 5)):
            self.assertEqual(last(new(SET), call), NO_RANGE, call)

    def test_range_before_kind(self):
        for call in (put(0, BAD, TRUE), put(0, TRUE, BAD), key(0, BAD), drop(0, BAD), get(0, BAD), rank(0, BAD),
                     add(0, BAD, TRUE), add(0, TRUE, BAD), take(0, LAST_NUMBER + 1), join(0, 1, 4), join(0, 0, 4),
                     insert(1, 0, BAD), insert(1, 9, nested(41)), change(1, 0, BAD), remove(1, LAST_NUMBER + 1, 0),
                     in_order(1, 3), differ(0, LAST_NUMBER + 1)):
            self.assertEqual(last(new(ROWS), new(SET), call), NO_RANGE, call)

    def test_range_before_what_is_told(self):
        for call in (insert(0, 9, BAD), change(0, 9, BAD), remove(0, 9, LAST_NUMBER + 1), in_order(0, 3)):
            self.assertEqual(last(new(ROWS), call), NO_RANGE, call)

    def test_absent_before_kind(self):
        for call in (join(0, 9, 0), join(9, 0, 0), join(9, 9, 0), join(0, 9, 1), join(9, 0, 3), differ(0, 9),
                     differ(9, 0), differ(9, 9), differ(1, 9), differ(9, 1), same(0, 9), same(9, 0)):
            self.assertEqual(last(new(ROWS), new(SET), call), NO_ABSENT, call)
        self.assertEqual(run(new(ROWS), *[call for call in (
            put(1, TRUE, TRUE), key(1, TRUE), drop(1, TRUE), get(1, TRUE), count(1), rank(1, TRUE), at(1, 0),
            part(1, 0, 0), add(1, TRUE, TRUE), take(1, 0), insert(1, 0, TRUE), change(1, 0, TRUE), remove(1, 0, 0),
            in_order(1, 2), forget(1), kind_of(1), form(1))])[1:], [NO_ABSENT] * 17)

    def test_kind_before_what_is_told(self):
        self.assertEqual(last(new(SET), take(0, 1)), NO_KIND)
        self.assertEqual(last(new(QUEUE), drop(0, TRUE)), NO_KIND)
        self.assertEqual(last(new(QUEUE), get(0, TRUE)), NO_KIND)
        for kind in (MAP, SET, QUEUE):
            for call in (insert(0, 9, TRUE), change(0, 9, TRUE), remove(0, 9, 9), remove(0, 0, 9)):
                self.assertEqual(last(new(kind), call), NO_KIND, call)

    def test_of_calls_on_a_full_shelf(self):
        full = [new(MAP), put(0, TRUE, TRUE), new(SET), key(2, TRUE), new(QUEUE), add(4, TRUE, TRUE)]
        full += [new(ROWS)] * (1024 - len(full))
        told = run(*full,
                   new(MAP), new(QUEUE, 2), put(1, TRUE, TRUE), put(1, FALSE, TRUE), key(3, TRUE), key(3, FALSE),
                   drop(1, TRUE), drop(3, TRUE), part(1, 0, 1), part(1, 0, 0), join(1, 1, 0), join(3, 3, 2),
                   join(5, 5, 0), join(6, 6, 0), add(5, TRUE, TRUE), take(5, 1), take(5, 0),
                   new(4), new(ROWS, 1), put(1, TRUE, BAD), join(1, 1, 4), put(1024, TRUE, TRUE), key(1, TRUE),
                   join(1, 3, 0), join(5, 5, 1), drop(1, FALSE), drop(3, FALSE), part(1, 0, 2), take(5, 2),
                   get(1, TRUE), count(1023), rank(5, TRUE), at(3, 0), count(1024))
        self.assertEqual(told[:1024], [[0, v] for v in range(1024)])
        self.assertEqual(told[1024:1041], [NO_FULL] * 17)
        self.assertEqual(told[1041:1045], [NO_RANGE] * 4)
        self.assertEqual(told[1045:], [
            NO_ABSENT, NO_KIND, NO_KIND, NO_KIND, NOTHING, NOTHING, NO_ABSENT, NO_ABSENT,
            [0] + TRUE, [0, 0], [0, 0], [0] + TRUE, NO_ABSENT])


    def test_of_the_calls_on_rows_and_forms_on_a_full_shelf(self):
        full = [new(ROWS), insert(0, 0, TRUE), insert(1, 0, FALSE)]
        full += [new(SET)] * (1024 - len(full))
        fits = form_value(SET, 0, [FALSE, TRUE])
        told = run(*full,
                   insert(2, 0, TRUE), insert(2, 2, TRUE), change(2, 0, TRUE), remove(2, 0, 2), remove(2, 0, 0),
                   in_order(2, 0), in_order(0, 1), of(fits), of(form_value(ROWS, 0, [])),
                   insert(2, 0, BAD), change(2, 0, BAD), in_order(2, 3), of(form_value(SET, 0, [BAD])),
                   insert(1024, 0, TRUE), in_order(1024, 0), insert(2, 3, TRUE), change(2, 2, TRUE), remove(2, 1, 2),
                   insert(3, 0, TRUE), in_order(3, 0), remove(3, 0, 0),
                   of(TRUE), of(form_value(SET, 0, [TRUE, FALSE])), of(form_value(ROWS, 0, [nested(41)])), room(),
                   same(3, 4), differ(3, 4), before(0, TRUE, FALSE), form(0), kind_of(3), forget(1023),
                   of(fits), in_order(2, 0), form(1024))
        self.assertEqual(told[1024:1033], [NO_FULL] * 9)
        self.assertEqual(told[1033:1037], [NO_RANGE] * 4)
        self.assertEqual(told[1037:1042], [NO_ABSENT] * 5)
        self.assertEqual(told[1042:1045], [NO_KIND] * 3)
        self.assertEqual(told[1045:], [
            NOTHING, [2, 1], [2, 0], [0, 3, 1 + 3 + 5 + 1021, 1024, 1024], [0, 1], [0, 3, 0], [0, 2],
            [0] + form_value(ROWS, 0, []), [0, 2, SET, 0], [0], [0, 1024], NO_FULL, [0] + fits])


class ChangeNothing(unittest.TestCase):
    refused = [
        new(4), new(0, 3), new(ROWS, 1), put(1, BAD, TRUE), put(9, TRUE, TRUE), put(3, TRUE, TRUE), key(3, BAD),
        key(9, TRUE), key(1, TRUE), drop(1, FALSE), drop(3, FALSE), drop(5, TRUE), part(1, 0, 2), part(3, 2, 0),
        join(1, 3, 0), join(1, 1, 4), join(5, 5, 1), join(1, 9, 0), add(5, BAD, TRUE), add(1, TRUE, TRUE),
        take(5, 3), take(3, 0), insert(7, 2, TRUE), insert(7, 0, BAD), insert(1, 0, TRUE), insert(9, 0, TRUE),
        change(7, 1, TRUE), change(7, 0, BAD), change(3, 0, TRUE), remove(7, 0, 2), remove(7, 2, 0), remove(5, 0, 0),
        in_order(7, 3), in_order(1, 0), in_order(9, 0), forget(8), forget(LAST_NUMBER + 1), kind_of(8), form(8),
        of(TRUE), of(BAD), of(form_value(SET, 0, [TRUE, TRUE])), of(form_value(ROWS, 0, [TRUE, nested(41)])),
        of(form_value(ROWS, 0, [BAD])), of(form_value(MAP, 3, [])), same(0, 8), before(3, TRUE, TRUE),
        before(0, BAD, TRUE), before(0, TRUE, BAD), differ(1, 3), differ(5, 5), differ(7, 7), differ(1, 8)]
    asking = [get(1, TRUE), get(3, TRUE), count(5), rank(1, TRUE), rank(3, FALSE), rank(5, FALSE), at(1, 0), at(5, 0),
              at(7, 0), room(), kind_of(1), form(1), form(7), same(1, 1), same(1, 3), before(0, TRUE, FALSE),
              differ(0, 1), differ(3, 2)]
    made = [new(MAP), put(0, TRUE, FALSE), new(SET), key(2, TRUE), new(QUEUE), add(4, TRUE, FALSE), new(ROWS),
            insert(6, 0, TRUE)]
    whole = [room()] + [form(v) for v in range(8)] + [new(SET), form(8)]
    kept = [form_value(MAP, 0, []), form_value(MAP, 0, [(TRUE, FALSE)]), form_value(SET, 0, []),
            form_value(SET, 0, [TRUE]), form_value(QUEUE, 0, []), form_value(QUEUE, 0, [(TRUE, FALSE)]),
            form_value(ROWS, 0, []), form_value(ROWS, 0, [TRUE])]

    def test_room_the_next_number_and_all_that_is_kept_stay(self):
        told = [[0, 3, 1 + 4 + 1 + 3 + 1 + 4 + 1 + 3, 8, 8]] + [[0] + each for each in self.kept]
        told += [[0, 8], [0] + form_value(SET, 0, [])]
        for call in self.refused + self.asking:
            answers = run(*self.made, call, *self.whole)
            self.assertEqual(answers[8][0] == 0, call in self.asking, call)
            self.assertEqual(answers[9:], told, call)

    def test_all_of_them_together(self):
        answers = run(*self.made, *self.refused, *self.asking, *self.refused, room(), key(3, FALSE), form(8))
        self.assertEqual(answers[-3:], [[0, 3, 18, 8, 8], [0, 8], [0] + form_value(SET, 0, [FALSE, TRUE])])

    def test_full_ones_too(self):
        full = [new(MAP), put(0, TRUE, FALSE), new(ROWS), insert(2, 0, TRUE)] + [new(SET)] * 1020
        there = last(*full, room())
        for call in (new(SET), put(1, TRUE, TRUE), drop(1, TRUE), part(1, 0, 1), join(1, 1, 0), insert(3, 0, TRUE),
                     change(3, 0, FALSE), remove(3, 0, 1), in_order(3, 1), of(form_value(MAP, 0, []))):
            self.assertEqual(run(*full, call, room(), form(1), form(3))[1024:],
                             [NO_FULL, there, [0] + form_value(MAP, 0, [(TRUE, FALSE)]),
                              [0] + form_value(ROWS, 0, [TRUE])], call)


class LastNumber(unittest.TestCase):
    def test_a_number_of_1000000(self):
        shelf = shelves.Shelf()
        shelf.following = 999999
        told = run_on(shelf, new(SET), key(999999, TRUE), new(SET), count(999999), new(4), get(999999, TRUE))
        self.assertEqual(told, [[0, 999999], NO_FULL, NO_FULL, [0, 0], NO_RANGE, NOTHING])

    def test_also_where_others_are_forgotten(self):
        shelf = shelves.Shelf()
        shelf.following = 999998
        told = run_on(shelf, new(ROWS), insert(999998, 0, TRUE), forget(999998), room(), in_order(999999, 0),
                      insert(999999, 0, TRUE), of(form_value(ROWS, 0, [])), form(999999), forget(999999), new(SET),
                      room())
        self.assertEqual(told, [[0, 999998], [0, 999999], [0], [0, 3, 3, 1, 1000000], NO_FULL, NO_FULL, NO_FULL,
                                [0] + form_value(ROWS, 0, [TRUE]), [0], NO_FULL, [0, 3, 0, 0, 1000000]])


if __name__ == "__main__":
    unittest.main()
