"""Promise 2: a form is of one version's entries; the calls form and of."""

import itertools
import random
import unittest

from tests.helper import (
    FALSE, KINDS, MAP, NOTHING, NO_RANGE, ORDERS, QUEUE, ROWS, SET, TRUE, asked, at, built, count, forget, form,
    form_value, get, insert, join, key, kind_of, last, listed, nested, new, number, of, part, put, room, run, same,
    take, text, told_entries)
from tests.test_orders import RISING

A, B, C, D = text("a"), text("b"), text("c"), text("d")
ONE, TWO, THREE = number(1), number(2), number(3)
PAIRS = (MAP, QUEUE)

DEEP = nested(40)
TOO_DEEP = nested(41)
LONG = text([7] * 4095)
TOO_LONG = text([7] * 4096)
LONG_NUMBERS = [number(-2 ** 63, 2 ** 63 - 1)] * 107
WIDE = listed(*LONG_NUMBERS, text([0] * 28))
TOO_WIDE = listed(*LONG_NUMBERS, text([0] * 29))


def entries_of(kind, order, keys):
    """Entries with these keys, turned as the order asks; each pair's value tells its key."""
    keys = keys[::-1] if order == 1 else keys
    return [(each, listed(each)) for each in keys] if kind in PAIRS else list(keys)


def faulty(at_fault):
    return [2, at_fault]


def made(value):
    """What `of` answers when it is the first call."""
    return run(of(value))[0]


class Form(unittest.TestCase):
    def test_of_empty_ones(self):
        for kind, order in KINDS:
            self.assertEqual(last(new(kind, order), form(0)), [0] + form_value(kind, order, []))

    def test_of_each_kind(self):
        for kind, order in KINDS:
            entries = entries_of(kind, order, [TRUE, number(-1, 2), A, listed(B, nested(3))])
            for mixed in itertools.permutations(entries):
                calls, v = built(kind, order, mixed)
                told = mixed if kind == ROWS else entries
                self.assertEqual(last(*calls, form(v)), [0] + form_value(kind, order, told))

    def test_as_it_is_written(self):
        self.assertEqual(last(new(MAP, 2), put(0, A, TRUE), form(1)),
                         [0, 3, 3, 1, 0, 1, 1, 2, 1, 3, 1, 3, 2, 2, 1, 97, 0, 1])
        self.assertEqual(last(new(SET, 1), key(0, ONE), form(1)), [0, 3, 3, 1, 1, 1, 1, 1, 1, 3, 1, 1, 1, 1])
        self.assertEqual(last(new(ROWS), insert(0, 0, A), form(1)), [0, 3, 3, 1, 3, 1, 1, 0, 1, 3, 1, 2, 1, 97])
        self.assertEqual(last(new(QUEUE), form(0)), [0, 3, 3, 1, 2, 1, 1, 0, 1, 3, 0])

    def test_its_entries_are_as_at_tells_them(self):
        for kind, order in KINDS:
            calls, v = built(kind, order, entries_of(kind, order, [ONE, TWO, A, B]))
            told = run(*calls, form(v), *[at(v, i) for i in range(4)])[len(calls):]
            self.assertEqual(told[0][11:], [each for answer in told[1:] for each in answer[1:]])

    def test_of_a_queue_in_the_order_in_which_they_were_added(self):
        calls, v = built(QUEUE, 0, [(TWO, A), (ONE, B), (TWO, C), (ONE, A)])
        self.assertEqual(last(*calls, form(v)),
                         [0] + form_value(QUEUE, 0, [(ONE, B), (ONE, A), (TWO, A), (TWO, C)]))


class OfForm(unittest.TestCase):
    def test_what_form_gave(self):
        for kind, order in KINDS:
            for many in range(5):
                calls, v = built(kind, order, entries_of(kind, order, [TRUE, THREE, A, listed(B)][:many]))
                told = last(*calls, form(v))[1:]
                answers = run(*calls, of(told), same(v, v + 1), form(v + 1), kind_of(v + 1), count(v + 1))
                self.assertEqual(answers[len(calls):],
                                 [[0, v + 1], [0, 1], [0] + told, [0, 2, kind, order], [0, many]])

    def test_of_all_sorts_in_each_order(self):
        for kind, order in KINDS:
            rising = RISING[order]
            entries = [(each, each) for each in rising] if kind in PAIRS else rising
            told = run(of(form_value(kind, order, entries)), form(0), room())
            self.assertEqual(told[:2], [[0, 0], [0] + form_value(kind, order, entries)])

    def test_takes_the_room_of_its_entries(self):
        for kind, order in KINDS:
            calls, v = built(kind, order, entries_of(kind, order, [TRUE, THREE, A, listed(B)]))
            told = last(*calls, form(v))[1:]
            used = last(*calls, *[forget(u) for u in range(v)], room())
            self.assertEqual(run(of(told), room())[1], [0, 3, used[2], 1, 1])

    def test_can_be_changed_on(self):
        for before, change, after in (
                (form_value(SET, 0, [A, C]), key(0, B), form_value(SET, 0, [A, B, C])),
                (form_value(ROWS, 0, [B, A, B]), insert(0, 1, C), form_value(ROWS, 0, [B, C, A, B])),
                (form_value(MAP, 1, [(B, ONE), (A, TWO)]), put(0, A, ONE), form_value(MAP, 1, [(B, ONE), (A, ONE)])),
                (form_value(QUEUE, 2, [(A, ONE), (A, TWO)]), take(0, 1), form_value(QUEUE, 2, [(A, TWO)]))):
            self.assertEqual(run(of(before), change, form(1), form(0)), [[0, 0], [0, 1], [0] + after, [0] + before])

    def test_put_and_got(self):
        told = run(of(form_value(MAP, 2, [(B, ONE), (text("aa"), TWO)])), get(0, B), get(0, text("aa")), get(0, A))
        self.assertEqual(told[1:], [[0] + ONE, [0] + TWO, NOTHING])

    def test_joined_with_what_was_made_otherwise(self):
        for kind, order in KINDS:
            calls, v = built(kind, order, entries_of(kind, order, [A, B, C]))
            told = run(*calls, of(form_value(kind, order, entries_of(kind, order, [B]))), join(v, v + 1, 0),
                       join(v, v, 0), count(v + 2))[len(calls):]
            self.assertEqual(told, [[0, v + 1], [0, v + 2], [0, v + 3], [0, 3 if kind < QUEUE else 4]])


class NotAForm(unittest.TestCase):
    def nothing(self, value):
        self.assertEqual(run(new(SET), room(), of(value), room(), new(SET))[1:],
                         [[0, 3, 1, 1, 1], NOTHING, [0, 3, 1, 1, 1], [0, 1]], value[:20])

    def test_no_list(self):
        for value in (TRUE, FALSE, number(3), number(1, 2), text(""), text("abc"), text([3, 3, 3])):
            self.nothing(value)

    def test_a_list_of_other_than_three(self):
        for value in (listed(), listed(ONE), listed(ONE, number(0)), listed(ONE, number(0), listed(), listed()),
                      listed(listed()), listed(ONE, number(0), listed(), TRUE), listed(listed(ONE, TWO, listed()))):
            self.nothing(value)

    def test_of_other_sorts(self):
        sorts = (TRUE, number(0), text("a"), listed())
        for parts in itertools.product(sorts, repeat=3):
            if parts == (number(0), number(0), listed()):
                self.assertEqual(made(listed(*parts)), [0, 0])
            else:
                self.nothing(listed(*parts))

    def test_kinds_and_orders(self):
        for kind, order in itertools.product(range(-2, 7), repeat=2):
            value = listed(number(kind), number(order), listed())
            if (kind, order) in KINDS:
                self.assertEqual(made(value), [0, 0])
            else:
                self.nothing(value)

    def test_fractions(self):
        for fraction in (number(1, 2), number(-1, 2), number(3, 2), number(1, 3), number(5, 2)):
            self.nothing(listed(fraction, number(0), listed()))
            self.nothing(listed(number(0), fraction, listed()))
            self.nothing(listed(fraction, fraction, listed()))

    def test_too_great(self):
        for great in (2 ** 31, 2 ** 32, 2 ** 32 + 1, 2 ** 63 - 1, -2 ** 63):
            self.nothing(listed(number(great), number(0), listed()))
            self.nothing(listed(number(0), number(great), listed()))

    def test_ahead_of_a_fault(self):
        for wrong in (listed(number(4), number(0), listed(B, A)), listed(number(1), number(3), listed(B, A)),
                      listed(number(ROWS), number(1), listed(TOO_DEEP)), listed(ONE, ONE, listed(A, B), TRUE),
                      listed(TRUE, number(0), listed(TOO_LONG))):
            self.nothing(wrong)

    def test_what_is_too_deep_or_too_long_to_be_handed_over_elsewhere(self):
        for value in (TOO_DEEP, nested(60), TOO_LONG, listed(*[TRUE] * 5000), listed(*[nested(50)] * 3)):
            self.nothing(value)


class NoRange(unittest.TestCase):
    def refused(self, value):
        self.assertEqual(run(new(SET), room(), of(value), room())[1:],
                         [[0, 3, 1, 1, 1], NO_RANGE, [0, 3, 1, 1, 1]], value[:20])

    def test_anywhere_within_the_form(self):
        for bad in (number(0, 0), number(1, 0), number(2, 4), number(0, 2), number(-3, 3), number(4, 2)):
            self.refused(bad)
            self.refused(listed(bad, number(0), listed()))
            self.refused(listed(number(0), bad, listed()))
            self.refused(listed(listed(), bad))
            for kind, order in KINDS:
                for entry in ((bad, A), (A, bad), (listed(A, bad), A), (A, listed(listed(), listed(bad)))):
                    value = entry if kind in PAIRS else listed(*entry)
                    self.refused(form_value(kind, order, [value]))
                    self.refused(form_value(kind, order, [(TRUE, TRUE) if kind in PAIRS else TRUE, value]))
                if kind not in PAIRS:
                    self.refused(form_value(kind, order, [bad]))

    def test_ahead_of_nothing_and_of_a_fault(self):
        bad = number(2, 2)
        for value in (listed(TRUE, bad), listed(number(9), number(9), listed(bad)), listed(text("x"), bad, TRUE),
                      form_value(SET, 0, [B, A, bad]), form_value(SET, 0, [B, A, listed(listed(bad))]),
                      form_value(MAP, 0, [(A, A), (bad, B)]), listed(ONE, number(0), listed(B, A), bad),
                      form_value(ROWS, 0, [TOO_DEEP, bad]), listed(ONE, number(0), listed(TOO_LONG, bad))):
            self.refused(value)


class Fault(unittest.TestCase):
    def check(self, value, at_fault):
        told = run(new(SET), room(), of(value), room(), new(SET))[1:]
        self.assertEqual(told, [[0, 3, 1, 1, 1], faulty(at_fault), [0, 3, 1, 1, 1], [0, 1]])

    def rising(self, kind, order, many):
        return entries_of(kind, order, [number(n) for n in range(many)])

    def test_not_a_list_of_two(self):
        for kind, order in itertools.product(PAIRS, ORDERS):
            rising = [listed(*entry) for entry in self.rising(kind, order, 4)]
            for wrong in (TRUE, ONE, A, text("ab"), listed(), listed(ONE), listed(ONE, ONE, ONE), text([1, 1])):
                for i in range(5):
                    entries = rising[:i] + [wrong] + rising[i:]
                    self.check(listed(number(kind), number(order), listed(*entries)), i)

    def test_a_list_of_two_is_a_key_of_a_set_and_a_value_of_a_row(self):
        for kind in (SET, ROWS):
            for wide in (listed(), listed(ONE), listed(ONE, ONE), listed(ONE, ONE, ONE), TRUE):
                self.assertEqual(made(form_value(kind, 0, [wide])), [0, 0])

    def test_too_deep_or_counting_too_much(self):
        for kind, order in KINDS:
            for fits, wrong in ((DEEP, TOO_DEEP), (LONG, TOO_LONG), (WIDE, TOO_WIDE),
                                (listed(nested(39), ONE), listed(nested(40), ONE)), (nested(2), nested(50))):
                wholes = [(fits, TRUE), (TRUE, fits), (fits, fits)] if kind in PAIRS else [fits]
                for whole in wholes:
                    self.assertEqual(made(form_value(kind, order, [whole])), [0, 0])
                wholes = [(wrong, TRUE), (TRUE, wrong), (wrong, wrong)] if kind in PAIRS else [wrong]
                for whole in wholes:
                    self.check(form_value(kind, order, [whole]), 0)

    def test_too_deep_at_every_place(self):
        for kind, order in KINDS:
            rising = self.rising(kind, order, 4)
            for i in range(5):
                for wrong in (TOO_DEEP, TOO_LONG):
                    for whole in ([(wrong, TRUE), (TRUE, wrong)] if kind in PAIRS else [wrong]):
                        self.check(form_value(kind, order, rising[:i] + [whole] + rising[i:]), i)

    def test_keys_that_are_not_behind(self):
        for kind, order in itertools.product((MAP, SET), ORDERS):
            rising = self.rising(kind, order, 6)
            for i in range(5):
                turned = rising[:i] + [rising[i + 1], rising[i]] + rising[i + 2:]
                self.check(form_value(kind, order, turned), i + 1)
                twice = rising[:i + 1] + rising[i:]
                self.check(form_value(kind, order, twice), i + 1)
            self.check(form_value(kind, order, rising[::-1]), 1)

    def test_a_maps_key_twice_with_another_value(self):
        for order in ORDERS:
            self.check(form_value(MAP, order, [(A, ONE), (A, TWO)]), 1)

    def test_ranks_that_are_before(self):
        for order in ORDERS:
            rising = self.rising(QUEUE, order, 6)
            for i in range(5):
                turned = rising[:i] + [rising[i + 1], rising[i]] + rising[i + 2:]
                self.check(form_value(QUEUE, order, turned), i + 1)
            self.check(form_value(QUEUE, order, rising[::-1]), 1)

    def test_ranks_that_are_the_same_may_stand(self):
        for order in ORDERS:
            same_rank = [(A, TWO), (A, ONE), (A, TWO), (A, TWO)]
            self.assertEqual(run(of(form_value(QUEUE, order, same_rank)), form(0)),
                             [[0, 0], [0] + form_value(QUEUE, order, same_rank)])
            self.check(form_value(QUEUE, order, same_rank + [(FALSE, ONE) if order != 1 else (listed(), ONE)]), 4)

    def test_any_value_may_stand_in_a_row(self):
        for mixed in itertools.product([A, B, TRUE], repeat=3):
            self.assertEqual(run(of(form_value(ROWS, 0, mixed)), form(0)), [[0, 0], [0] + form_value(ROWS, 0, mixed)])

    def test_by_each_order(self):
        pairs = ((A, B, (True, False, True)), (text("b"), text("aa"), (False, True, True)),
                 (text("aa"), text("b"), (True, False, False)), (B, A, (False, True, False)),
                 (listed(text("b")), listed(text("aa")), (False, True, True)), (A, listed(), (True, False, True)),
                 (ONE, TRUE, (False, True, False)), (number(1, 3), number(1, 2), (True, False, True)))
        for x, y, fits in pairs:
            for kind, order in itertools.product((MAP, SET, QUEUE), ORDERS):
                entries = [(x, ONE), (y, ONE)] if kind in PAIRS else [x, y]
                self.assertEqual(made(form_value(kind, order, entries)), [0, 0] if fits[order] else faulty(1))

    def test_every_pair_of_all_sorts(self):
        for order in ORDERS:
            rising = RISING[order]
            for here, there in itertools.product(range(0, len(rising), 5), repeat=2):
                x, y = rising[here], rising[there]
                self.assertEqual(made(form_value(SET, order, [x, y])), [0, 0] if here < there else faulty(1))
                self.assertEqual(made(form_value(MAP, order, [(x, y), (y, x)])), [0, 0] if here < there else faulty(1))
                self.assertEqual(made(form_value(QUEUE, order, [(x, y), (y, x)])),
                                 [0, 0] if here <= there else faulty(1))

    def test_the_first_of_several(self):
        self.check(form_value(SET, 0, [A, TOO_DEEP, TOO_LONG, A]), 1)
        self.check(form_value(SET, 0, [B, A, TOO_LONG]), 1)
        self.check(form_value(SET, 0, [A, B, B, TOO_DEEP, A]), 2)
        self.check(form_value(SET, 0, [TOO_LONG, B, A]), 0)
        self.check(form_value(MAP, 0, [(A, ONE), (B, TOO_DEEP), (A, ONE)]), 1)
        self.check(form_value(MAP, 0, [(B, ONE), (A, TOO_DEEP), (TOO_DEEP, ONE)]), 1)
        self.check(listed(number(MAP), number(0), listed(listed(A, ONE), A, listed(A, ONE))), 1)
        self.check(listed(number(QUEUE), number(0), listed(listed(B, ONE), listed(A, ONE), A)), 1)
        self.check(listed(number(QUEUE), number(0), listed(listed(A, ONE), listed(A, ONE), A, listed(FALSE, A))), 2)
        self.check(form_value(ROWS, 0, [A, A, TOO_LONG, B, TOO_DEEP]), 2)

    def test_only_the_one_before_it_counts(self):
        self.check(form_value(SET, 0, [A, D, B, C]), 2)
        self.check(form_value(QUEUE, 0, [(A, ONE), (D, ONE), (B, ONE), (C, ONE)]), 2)

    def test_far_behind(self):
        rising = [number(n) for n in range(2000)]
        self.check(form_value(SET, 0, rising + [number(1999)]), 2000)
        self.check(form_value(ROWS, 0, rising + [TOO_DEEP]), 2000)


class DeepAndLong(unittest.TestCase):
    def test_deeper_than_40(self):
        for kind, order in KINDS:
            entries = [(DEEP, DEEP)] if kind in PAIRS else [DEEP]
            told = form_value(kind, order, entries)
            self.assertEqual(run(of(told), form(0), count(0)), [[0, 0], [0] + told, [0, 1]])

    def test_counting_more_than_4096(self):
        for kind, order in KINDS:
            keys = [LONG, text([8] * 4095), text([9] * 4095)]
            keys = keys[::-1] if order == 1 else keys
            entries = [(keys[0], LONG), (keys[1], TRUE)] if kind in PAIRS else keys
            told = form_value(kind, order, entries)
            self.assertEqual(run(of(told), form(0)), [[0, 0], [0] + told])

    def test_both(self):
        for kind, order in KINDS:
            keys = [listed(nested(39), number(n)) for n in range(60)]
            entries = [(each, DEEP) for each in keys] if kind in PAIRS else keys
            told = form_value(kind, order, entries[::-1] if order == 1 else entries)
            self.assertEqual(run(of(told), form(0)), [[0, 0], [0] + told])

    def test_a_form_as_a_key_must_fit(self):
        told = form_value(ROWS, 0, [DEEP])
        self.assertEqual(run(new(SET), key(0, told), of(told), form(1))[1:], [NO_RANGE, [0, 1], [0] + told])


class WhateverTheWay(unittest.TestCase):
    def test_the_form_hangs_on_what_is_in_it_alone(self):
        source = random.Random(2)
        for kind, order in KINDS[:6]:
            entries = entries_of(kind, order, [number(n) for n in range(12)])
            for turn in range(5):
                mixed = list(entries)
                source.shuffle(mixed)
                calls, v = built(kind, order, mixed)
                more, u = built(kind, order, mixed[:7], v + 1)
                calls += more + [part(v, 4, 8), join(u, u + 1, 0), part(v, 0, 12), join(v, u, 1), join(v, u, 2),
                                 join(u + 4, u + 5, 3), of(form_value(kind, order, entries))]
                told = run(*calls, form(v), form(u + 3), form(u + 6), form(u + 7), same(v, u + 6))[len(calls):]
                self.assertEqual(told, [[0] + form_value(kind, order, entries)] * 4 + [[0, 1]])

    def test_asked_by_at_too(self):
        told = form_value(MAP, 1, [(C, ONE), (B, TWO), (A, THREE)])
        self.assertEqual(run(of(told), *asked(0, 3))[1:],
                         told_entries([listed(C, ONE), listed(B, TWO), listed(A, THREE)]))


if __name__ == "__main__":
    unittest.main()
