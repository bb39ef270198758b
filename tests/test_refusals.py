"""Promise 7: the order of the refusals, and that what is refused or asks changes nothing."""

import unittest

from keptversions import shelf as shelves
from tests.helper import (
    LAST_NUMBER, MAP, NO_ABSENT, NO_FULL, NO_KIND, NO_RANGE, NOTHING, QUEUE, ROWS, SET, TRUE, FALSE, add, asked, at,
    count, drop, get, join, key, last, new, number, part, put, rank, run, run_on, take, told_entries, listed)

BAD = number(2, 4)
KINDS = (MAP, SET, QUEUE, ROWS)


class Kinds(unittest.TestCase):
    def check(self, call, kinds):
        for kind in KINDS:
            told = run(new(kind), call, new(kind))
            if kind in kinds:
                self.assertNotEqual(told[1], NO_KIND)
            else:
                self.assertEqual(told[1:], [NO_KIND, [0, 1]])

    def test_each_call_is_for_its_kinds(self):
        self.check(put(0, TRUE, TRUE), (MAP,))
        self.check(key(0, TRUE), (SET,))
        self.check(drop(0, TRUE), (MAP, SET))
        self.check(get(0, TRUE), (MAP, SET))
        self.check(count(0), KINDS)
        self.check(rank(0, TRUE), (MAP, SET, QUEUE))
        self.check(at(0, 0), KINDS)
        self.check(part(0, 0, 0), KINDS)
        self.check(join(0, 0, 0), KINDS)
        self.check(join(0, 0, 1), (MAP, SET))
        self.check(add(0, TRUE, TRUE), (QUEUE,))
        self.check(take(0, 0), (QUEUE,))


class Order(unittest.TestCase):
    def test_range_before_absent(self):
        for call in (put(5, BAD, TRUE), put(5, TRUE, BAD), key(5, BAD), drop(5, BAD), get(5, BAD), rank(5, BAD),
                     add(5, BAD, TRUE), add(5, TRUE, BAD), join(5, 5, 4), join(0, 5, 4), join(5, 0, 4),
                     at(5, LAST_NUMBER + 1), part(5, 0, LAST_NUMBER + 1), part(5, LAST_NUMBER + 1, 0),
                     take(5, LAST_NUMBER + 1), join(5, LAST_NUMBER + 1, 0), join(LAST_NUMBER + 1, 5, 0)):
            self.assertEqual(last(new(SET), call), NO_RANGE, call)

    def test_range_before_kind(self):
        for call in (put(0, BAD, TRUE), put(0, TRUE, BAD), key(0, BAD), drop(0, BAD), get(0, BAD), rank(0, BAD),
                     add(0, BAD, TRUE), add(0, TRUE, BAD), take(0, LAST_NUMBER + 1), join(0, 1, 4), join(0, 0, 4)):
            self.assertEqual(last(new(ROWS), new(SET), call), NO_RANGE, call)

    def test_absent_before_kind(self):
        for call in (join(0, 9, 0), join(9, 0, 0), join(9, 9, 0), join(0, 9, 1), join(9, 0, 3)):
            self.assertEqual(last(new(ROWS), new(SET), call), NO_ABSENT, call)
        self.assertEqual(run(new(ROWS), *[call for call in (
            put(1, TRUE, TRUE), key(1, TRUE), drop(1, TRUE), get(1, TRUE), count(1), rank(1, TRUE), at(1, 0),
            part(1, 0, 0), add(1, TRUE, TRUE), take(1, 0))])[1:], [NO_ABSENT] * 10)

    def test_kind_before_what_is_told(self):
        self.assertEqual(last(new(SET), take(0, 1)), NO_KIND)
        self.assertEqual(last(new(QUEUE), drop(0, TRUE)), NO_KIND)
        self.assertEqual(last(new(QUEUE), get(0, TRUE)), NO_KIND)

    def test_of_calls_on_a_full_shelf(self):
        full = [new(MAP), put(0, TRUE, TRUE), new(SET), key(2, TRUE), new(QUEUE), add(4, TRUE, TRUE)]
        full += [new(ROWS)] * (1024 - len(full))
        told = run(*full,
                   new(MAP), new(QUEUE, 2), put(1, TRUE, TRUE), put(1, FALSE, TRUE), key(3, TRUE), key(3, FALSE),
                   drop(1, TRUE), drop(3, TRUE), part(1, 0, 1), part(1, 0, 0), join(1, 1, 0), join(3, 3, 2),
                   join(5, 5, 0), join(6, 6, 0), add(5, TRUE, TRUE), take(5, 1), take(5, 0),
                   new(4), new(ROWS, 1), put(1, TRUE, BAD), join(1, 1, 4), put(1024, TRUE, TRUE), key(1, TRUE),
                   join(1, 3, 0), join(5, 5, 1), drop(1, FALSE), drop(3, FALSE), part(1, 0, 2), take(5, 2),
                   get(1, TRUE), count(1023), rank(5, TRUE), at(3, 0), count(1024))
        self.assertEqual(told[:1024], [[0, v] for v in range(1024)])
        self.assertEqual(told[1024:1041], [NO_FULL] * 17)
        self.assertEqual(told[1041:1045], [NO_RANGE] * 4)
        self.assertEqual(told[1045:], [
            NO_ABSENT, NO_KIND, NO_KIND, NO_KIND, NOTHING, NOTHING, NO_ABSENT, NO_ABSENT,
            [0] + TRUE, [0, 0], [0, 0], [0] + TRUE, NO_ABSENT])


class ChangeNothing(unittest.TestCase):
    refused = [
        new(4), new(0, 3), new(ROWS, 1), put(1, BAD, TRUE), put(9, TRUE, TRUE), put(3, TRUE, TRUE), key(3, BAD),
        key(9, TRUE), key(1, TRUE), drop(1, FALSE), drop(3, FALSE), drop(5, TRUE), part(1, 0, 2), part(3, 2, 0),
        join(1, 3, 0), join(1, 1, 4), join(5, 5, 1), join(1, 9, 0), add(5, BAD, TRUE), add(1, TRUE, TRUE),
        take(5, 3), take(3, 0)]
    asking = [get(1, TRUE), get(1, FALSE), get(3, TRUE), count(5), rank(1, TRUE), rank(3, FALSE), rank(5, FALSE),
              at(1, 0), at(1, 1), at(5, 0), count(9)]
    made = [new(MAP), put(0, TRUE, FALSE), new(SET), key(2, TRUE), new(QUEUE), add(4, TRUE, FALSE)]

    def test_the_next_number_and_all_that_is_kept_stay(self):
        whole = (asked(0, 0) + asked(1, 1) + asked(2, 0) + asked(3, 1) + asked(4, 0) + asked(5, 1))
        told = (told_entries([]) + told_entries([listed(TRUE, FALSE)]) + told_entries([]) + told_entries([TRUE])
                + told_entries([]) + told_entries([listed(TRUE, FALSE)]))
        for call in self.refused + self.asking:
            answers = run(*self.made, call, *whole, new(SET), count(6))
            if call in self.refused:
                self.assertEqual(len(answers[6]), 1, call)
                self.assertNotEqual(answers[6][0], 0, call)
            self.assertEqual(answers[7:], told + [[0, 6], [0, 0]], call)

    def test_all_of_them_together(self):
        answers = run(*self.made, *self.refused, *self.asking, *self.refused, key(3, FALSE), *asked(6, 2))
        self.assertEqual(answers[-4:], [[0, 6]] + told_entries([FALSE, TRUE]))


class LastNumber(unittest.TestCase):
    def test_a_number_of_1000000(self):
        shelf = shelves.Shelf()
        shelf.following = 999999
        told = run_on(shelf, new(SET), key(999999, TRUE), new(SET), count(999999), new(4), get(999999, TRUE))
        self.assertEqual(told, [[0, 999999], NO_FULL, NO_FULL, [0, 0], NO_RANGE, NOTHING])


if __name__ == "__main__":
    unittest.main()
