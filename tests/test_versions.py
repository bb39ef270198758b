"""Promise 3: old versions stay; and what the interface says of what is handed in and kept."""

import unittest

from keptversions import desk
from tests.helper import (
    FALSE, MAP, ORDERS, QUEUE, ROWS, SET, TRUE, add, asked, at, before, built, change, count, differ, drop, forget,
    form, form_value, get, in_order, insert, join, key, kind_of, listed, new, number, of, part, put, rank, remove, room,
    run, same, take, text, told_entries)

A, B, C, D = text("a"), text("b"), text("c"), text("d")
ONE, TWO = number(1), number(2)


class Guarded(list):
    """A list that can't be changed, not for a while either."""

    def refuse(self, *row, **named):
        raise RuntimeError("the list that is handed in is changed")

    append = clear = extend = insert = pop = remove = reverse = sort = refuse
    __setitem__ = __delitem__ = __iadd__ = __imul__ = refuse


class OldVersionsStay(unittest.TestCase):
    def check(self, made, v, entries, changes):
        """After each change, and after all, version v has the entries it had."""
        many = len(entries)
        calls, told = list(made), run(*made)
        for each in changes:
            calls += [each, form(v)] + asked(v, many)
            told += [None, run(*made, form(v))[-1]] + told_entries(entries)
        answers = run(*calls)
        for call, answer, right in zip(calls, answers, told):
            self.assertEqual(answer, answer if right is None else right, call)
        self.assertEqual([answer[0] for answer, right in zip(answers, told) if right is None], [0] * len(changes))

    def test_maps(self):
        for order in ORDERS:
            made, v = built(MAP, order, [(A, ONE), (B, ONE), (C, ONE)])
            rising = [listed(each, ONE) for each in ([C, B, A] if order == 1 else [A, B, C])]
            self.check(made, v, rising, [
                put(v, B, TWO), put(v, D, TWO), put(v, FALSE, TWO), drop(v, A), drop(v, C), part(v, 1, 1),
                join(v, v, 0), join(v, v + 2, 0), join(v + 2, v, 1), join(v, v, 2), join(v, v + 1, 3),
                put(v + 1, A, TWO), drop(v + 7, B)])

    def test_sets(self):
        for order in ORDERS:
            made, v = built(SET, order, [B, A, C])
            self.check(made, v, [C, B, A] if order == 1 else [A, B, C], [
                key(v, B), key(v, D), key(v, FALSE), drop(v, A), drop(v, C), part(v, 0, 3), part(v, 1, 1),
                join(v, v, 0), join(v, v + 2, 0), join(v + 2, v, 1), join(v, v, 2), join(v, v + 2, 3),
                key(v + 6, D), drop(v + 6, A), key(v + 8, D)])

    def test_queues(self):
        for order in ORDERS:
            made, v = built(QUEUE, order, [(ONE, A), (TWO, B), (ONE, C)])
            rising = [(TWO, B), (ONE, A), (ONE, C)] if order == 1 else [(ONE, A), (ONE, C), (TWO, B)]
            self.check(made, v, [listed(*each) for each in rising], [
                add(v, ONE, D), add(v, TWO, D), add(v, FALSE, D), take(v, 0), take(v, 1), take(v, 3), part(v, 0, 3),
                join(v, v, 0), join(v, v + 1, 0), join(v + 1, v, 0), add(v + 4, ONE, D), take(v + 7, 3),
                add(v + 7, TWO, D), take(v + 8, 6)])

    def test_rows(self):
        made, v = built(ROWS, 0, [B, A, C, A])
        self.check(made, v, [B, A, C, A], [
            insert(v, 0, D), insert(v, 2, D), insert(v, 4, D), change(v, 0, D), change(v, 3, D), change(v, 1, A),
            remove(v, 0, 0), remove(v, 0, 1), remove(v, 1, 2), remove(v, 0, 4), in_order(v, 0), in_order(v, 1),
            in_order(v, 2), part(v, 0, 4), part(v, 1, 2), join(v, v, 0), join(v, v + 1, 0), join(v + 1, v, 0),
            insert(v + 7, 1, D), change(v + 7, 0, D), remove(v + 14, 0, 4), in_order(v + 14, 0), insert(v + 16, 8, D),
            in_order(v + 16, 1), of(form_value(ROWS, 0, [B, A, C, A])), change(v + 25, 0, D), forget(v + 25),
            forget(v + 1), forget(0)])

    def test_forgotten_and_made_from_forms(self):
        made, v = built(MAP, 1, [(A, ONE), (B, ONE)])
        rising = [listed(B, ONE), listed(A, ONE)]
        self.check(made, v, rising, [
            of(form_value(MAP, 1, [(B, ONE), (A, ONE)])), put(v + 1, A, TWO), drop(v + 1, A), forget(v + 1),
            forget(v - 1), forget(0), put(v, A, TWO), forget(v + 4), join(v, v + 2, 0), forget(v + 2)])

    def test_two_ways_on_from_one_version(self):
        calls, v = built(SET, 0, [A])
        calls += [key(v, B), key(v, C), drop(v + 1, A), key(v + 2, D)]
        told = run(*calls, *asked(v, 1), *asked(v + 1, 2), *asked(v + 2, 2), *asked(v + 3, 1), *asked(v + 4, 3))
        self.assertEqual(told[len(calls):], told_entries([A]) + told_entries([A, B]) + told_entries([A, C])
                         + told_entries([B]) + told_entries([A, C, D]))

    def test_every_version_of_a_long_way(self):
        calls = [new(SET)] + [key(v, number(7 * v % 31)) for v in range(31)]
        calls += [drop(31 + v, number(11 * v % 31)) for v in range(31)]
        there, kept = set(), [[]]
        for turn in range(62):
            there ^= {7 * turn % 31 if turn < 31 else 11 * (turn - 31) % 31}
            kept.append(sorted(there))
        told = run(*calls, *[call for v, row in enumerate(kept) for call in asked(v, len(row))][:1100])
        right = [answer for row in kept for answer in told_entries([number(n) for n in row])][:1100]
        self.assertEqual(told[len(calls):], right)


class Interface(unittest.TestCase):
    calls = [new(MAP, 2), put(0, listed(A, number(1, 2)), TRUE), drop(1, A), get(1, listed(A, number(1, 2))), count(1),
             rank(1, A), at(1, 0), part(1, 0, 1), join(1, 3, 0), new(SET), key(4, B), new(QUEUE, 1), add(6, ONE, A),
             take(7, 1), take(7, 2), put(1, number(2, 2), A), new(9), count(99), key(0, A), new(ROWS), insert(9, 0, B),
             insert(10, 0, listed(A, TRUE)), change(11, 1, ONE), remove(12, 0, 1), in_order(12, 1), room(), forget(10),
             kind_of(12), form(12), form(10), of(form_value(ROWS, 0, [A, listed(B)])), of(TRUE), same(12, 14),
             of(form_value(SET, 0, [B, A])), before(2, listed(A), listed(B)), differ(0, 1), differ(1, 3), room()]

    def flat(self):
        return [each for call in self.calls for each in call]

    def test_a_list_of_whole_numbers(self):
        told = desk.answers(self.flat())
        self.assertIs(type(told), list)
        self.assertEqual({type(each) for each in told}, {int})

    def test_the_answers_one_behind_another(self):
        self.assertEqual(desk.answers([1, 1, 0, 3, 0, 2, 0, 1, 6, 1, 8, 1, 0, 8, 1, 1]),
                         [2, 0, 0, 2, 0, 1, 2, 0, 1, 3, 0, 0, 1, 1, -2])
        self.assertEqual(desk.answers([1, 3, 1]), [1, -1])
        self.assertEqual(desk.answers([6, 0]), [1, -2])

    def test_the_list_is_as_it_was(self):
        flat = self.flat()
        desk.answers(flat)
        self.assertEqual(flat, self.flat())
        self.assertEqual(desk.answers(Guarded(flat)), desk.answers(flat))

    def test_all_calls_are_among_them(self):
        self.assertEqual({call[0] for call in self.calls}, set(range(1, 25)))

    def test_each_call_alone_leaves_the_list_as_it_was(self):
        for call in self.calls:
            told = desk.answers(Guarded(call))
            self.assertEqual(told, desk.answers(list(call)))

    def test_the_answers_of_the_later_calls(self):
        self.assertEqual(desk.answers([18, 1, 3, 0, 13, 0, 0, 2, 0, 1, 20, 1, 19, 1, 22, 0, 1, 17, 0, 18, 17, 0]),
                         [5, 0, 3, 0, 0, 0, 2, 0, 0, 2, 0, 1, 13, 0, 3, 3, 1, 3, 1, 1, 0, 1, 3, 1, 0, 1,
                          4, 0, 2, 3, 0, 2, 0, 0, 1, 0, 5, 0, 3, 3, 1, 2, 1, -2])
        self.assertEqual(desk.answers([21, 2, 0, 1]), [1, 1])
        self.assertEqual(desk.answers([21, 14, 3, 3, 1, 1, 1, 1, 0, 1, 3, 2, 0, 1, 0, 1]), [2, 2, 1])
        self.assertEqual(desk.answers([23, 0, 2, 0, 1, 3, 1, 0, 1, 24, 0, 0]), [2, 0, 0, 1, -2])

    def test_nothing_is_kept_from_one_time_to_the_next(self):
        flat = self.flat()
        first = desk.answers(flat)
        self.assertEqual(desk.answers(flat), first)
        self.assertEqual(desk.answers([6, 0]), [1, -2])
        other = [each for call in [new(SET)] * 1024 for each in call]
        self.assertEqual(desk.answers(other)[-2:], [0, 1023])
        self.assertEqual(desk.answers(other)[-2:], [0, 1023])
        self.assertEqual(desk.answers(flat), first)
        self.assertEqual(desk.answers([18]), [5, 0, 3, 0, 0, 0])

    def test_an_answer_can_be_changed(self):
        flat = self.flat()
        told = desk.answers(flat)
        right = list(told)
        told.clear()
        self.assertEqual(desk.answers(flat), right)
        self.assertEqual(flat, self.flat())


if __name__ == "__main__":
    unittest.main()
