"""What a value is: its depth, what it counts, and its place in an order.

A value is kept as the numbers by which it is handed in. As its numbers are in lowest terms, two
values are the same just where what they are kept as is the same.
"""

from keptversions.refusals import NoRange

TRUTH = 0
NUMBER = 1
TEXT = 2
LIST = 3

# Not a sort of value: the step behind a list's last part.
LIST_END = 4

MOST_DEPTH = 40
MOST_COUNT = 4096

TURNED_ROUND = 1
SHORTER_TEXTS_FIRST = 2

# Less than every tag and every byte, so that what ends is before what goes on.
END = -1

# 2 to the 126th. Two fractions that differ, with each d below 2 to the 63rd, are more than
# 1 / FINENESS apart: their multiples by it, rounded down, still differ and are in the same order.
FINENESS = 85070591730234615865843651857942052864


class Value:
    def __init__(self, numbers, depth, weight):
        self.numbers = numbers
        self.depth = depth
        self.weight = weight


# One step through a value; its own numbers are without the tag, a count, and the parts within it.
class Step:
    def __init__(self, tag, depth, own):
        self.tag = tag
        self.depth = depth
        self.own = own


# Gives where the own numbers of the step that begins at `at` begin and end.
def own_span(numbers, at):
    tag = numbers[at]
    if tag == TRUTH:
        return (at + 1, at + 2)
    if tag == NUMBER:
        return (at + 1, at + 3)
    if tag == TEXT:
        return (at + 2, at + 2 + numbers[at + 1])
    return (at + 2, at + 2)


# Lists may be nested deeper than calls should be, so what is left of each is kept in a list.
def steps_through(numbers):
    steps = []
    parts_left = []
    at = 0
    while at < len(numbers):
        span = own_span(numbers, at)
        steps.append(Step(numbers[at], len(parts_left) + 1, list(numbers[span[0]:span[1]])))
        if len(parts_left) > 0:
            parts_left[-1] -= 1
        if numbers[at] == LIST:
            parts_left.append(numbers[at + 1])
        at = span[1]
        while len(parts_left) > 0 and parts_left[-1] == 0:
            parts_left.pop()
            steps.append(Step(LIST_END, len(parts_left) + 1, []))
    return steps


def common_divisor(a, b):
    while b > 0:
        rest = a % b
        a = b
        b = rest
    return a


def is_lowest(n, d):
    return d > 0 and common_divisor(abs(n), d) == 1


def digits(number):
    return len(str(abs(number)))


def step_weight(step):
    if step.tag == NUMBER:
        return digits(step.own[0]) + digits(step.own[1])
    if step.tag == TEXT:
        return len(step.own) + 1
    if step.tag == LIST_END:
        return 0
    return 1


# A form may be deeper and count more than what is handed over, so its depth and weight are not judged here.
def read_value(numbers):
    depth = 0
    weight = 0
    for step in steps_through(numbers):
        if step.tag == NUMBER and not is_lowest(step.own[0], step.own[1]):
            raise NoRange()
        depth = max(depth, step.depth)
        weight += step_weight(step)
    return Value(tuple(numbers), depth, weight)


def may_be_handed_over(value):
    return value.depth <= MOST_DEPTH and value.weight <= MOST_COUNT


def checked_value(numbers):
    value = read_value(numbers)
    if not may_be_handed_over(value):
        raise NoRange()
    return value


def end_of_value(numbers, start):
    at = start
    values_left = 1
    while values_left > 0:
        values_left -= 1
        if numbers[at] == LIST:
            values_left += numbers[at + 1]
        at = own_span(numbers, at)[1]
    return at


# Gives the numbers of each part of a list.
def parts_of(numbers):
    parts = []
    at = 2
    while at < len(numbers):
        end = end_of_value(numbers, at)
        parts.append(numbers[at:end])
        at = end
    return parts


def step_codes(step, order):
    if step.tag == NUMBER:
        return [NUMBER, step.own[0] * FINENESS // step.own[1]]
    if step.tag == TEXT and order == SHORTER_TEXTS_FIRST:
        return [TEXT, len(step.own)] + step.own
    if step.tag == TEXT:
        return [TEXT] + step.own + [END]
    if step.tag == LIST_END:
        return [END]
    return [step.tag] + step.own


# A value's place is less than another's just where the value is before the other by the order.
# No value's codes begin with all those of another value, so two that differ do so at a code that
# both have: turning the signs turns the order round.
def place_of(numbers, order):
    codes = []
    for step in steps_through(numbers):
        codes.extend(step_codes(step, order))
    if order == TURNED_ROUND:
        return tuple([-code for code in codes])
    return tuple(codes)
