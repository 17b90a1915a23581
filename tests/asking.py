"""Calls written as the interface hands them in, and answers taken apart call by call."""

import signal

from looprounds.leaps import answers

# A program that walks instead of leaping would take days here: it shall fail, not hang.
SECONDS = 60


def loop(n, *branch):
    return [0, n, len(branch), *branch]


def values(*row):
    return [1, len(row), *row]


def rounds():
    return [2]


def at(n):
    return [3, n]


def first(*test):
    return [4, len(test), *test]


def last(*test):
    return [5, len(test), *test]


def times(*test):
    return [6, len(test), *test]


def extremes(counter):
    return [7, counter]


def starts(counter, lo, hi):
    return [8, counter, lo, hi]


def leap():
    return [9]


def jump(n):
    return [10, n]


def plain():
    return [11]


def told():
    return [12]


def too_long(number, frame):
    raise AssertionError("not answered at once")


def answers_in_time(calls):
    before = signal.signal(signal.SIGALRM, too_long)
    signal.alarm(SECONDS)
    try:
        return answers(calls)
    finally:
        signal.alarm(0)
        signal.signal(signal.SIGALRM, before)


def taken_apart(given, count):
    """The answers as one list a call; wrong counts are told as errors."""
    apart = []
    place = 0
    while place < len(given):
        size = given[place]
        answer = given[place + 1:place + 1 + size]
        if size < 1 or len(answer) != size:
            raise AssertionError(f"the counts don't fit: {given}")
        apart.append(answer)
        place += 1 + size
    if len(apart) != count:
        raise AssertionError(f"{len(apart)} answers to {count} calls: {given}")
    return apart


def ask(*calls):
    """The answers to these calls on one new object; no more calls and numbers than may be handed in."""
    flat = [number for call in calls for number in call]
    if len(calls) > 20 or len(flat) > 700:
        raise AssertionError(f"too long a line: {len(calls)} calls, {len(flat)} numbers")
    given = answers_in_time(flat)
    if not isinstance(given, list) or not all(type(number) is int for number in given):
        raise AssertionError(f"not a list of whole numbers: {given!r}")
    return taken_apart(given, len(calls))


def ask_last(*calls):
    """The answer to the last of these calls."""
    return ask(*calls)[-1]
