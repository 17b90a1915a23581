"""Branches, tests and values read from plain lists of numbers, and told as such; what is not whole is refused."""

from looprounds.checks import BELOW, REMAINDER
from looprounds.refusals import NotWhole
from looprounds.rows import Row

MOST_COUNTERS = 4
MOST_TESTS = 3
MOST_MOVED = 99
MOST_TESTED = 999999
MOST_VALUE = 1000000
DIVISORS = (2, 3, 4, 6)


def read_test(row, counters):
    kind = row.within(0, REMAINDER)
    counter = row.within(0, counters - 1)
    if kind == REMAINDER:
        divisor = row.number()
        if divisor not in DIVISORS:
            raise NotWhole()
        return (kind, counter, divisor, row.within(0, divisor - 1))
    if kind == BELOW:
        other = row.within(0, counters - 1)
        return (kind, counter, other, row.within(-MOST_TESTED, MOST_TESTED))
    return (kind, counter, row.within(-MOST_TESTED, MOST_TESTED))


def read_gift(row, counters):
    """What a counter is given: the counter whose old value it takes, or None, and the number."""
    source = None
    if row.within(0, 1) == 1:
        source = row.within(0, counters - 1)
    return (source, row.within(-MOST_MOVED, MOST_MOVED))


def whole_test(numbers, counters):
    row = Row(numbers)
    test = read_test(row, counters)
    row.finish()
    return test


def whole_branch(numbers, counters):
    """The branch's tests, and its move."""
    if counters < 1 or counters > MOST_COUNTERS:
        raise NotWhole()
    row = Row(numbers)
    size = row.within(0, MOST_TESTS)
    tests = [read_test(row, counters) for place in range(size)]
    move = [read_gift(row, counters) for counter in range(counters)]
    row.finish()
    return (tests, move)


def whole_values(numbers, counters):
    row = Row(numbers)
    read = [row.within(-MOST_VALUE, MOST_VALUE) for counter in range(counters)]
    row.finish()
    return read


def gift_numbers(gift):
    if gift[0] is None:
        return [0, gift[1]]
    return [1, gift[0], gift[1]]


def branch_numbers(tests, move):
    """The numbers that the branch was read from."""
    told = [len(tests)]
    for test in tests:
        told.extend(test)
    for gift in move:
        told.extend(gift_numbers(gift))
    return told


def may_begin(state):
    """Whether these are values that a loop may begin with."""
    return all([abs(value) <= MOST_VALUE for value in state])
