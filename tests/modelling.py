"""The object and its calls, as the document tells them, done by plain walks.

A call is its name and what is handed in: ("jump", 5), ("loop", 1, (0, 1, 0, 0)), ("values", (7,)).
"""

from walking import all_hold, branch_numbers, ending, holds, moved, state_after, stretch, walk

MOST = 1000000
# States near both ends of a loop: more than enough for each counter to be least and greatest there.
NEAR = 60


def cut(numbers, size):
    """The first so many numbers, and the rest; None if there aren't as many."""
    return (numbers[:size], numbers[size:]) if len(numbers) >= size else None


def is_test(test, n):
    if test[0] in (0, 1):
        return test[1] in range(n) and abs(test[2]) < MOST
    if test[0] == 2:
        return test[1] in range(n) and test[2] in range(n) and abs(test[3]) < MOST
    return test[1] in range(n) and test[2] in (2, 3, 4, 6) and test[3] in range(test[2])


def is_gift(gift, n):
    return abs(gift[-1]) < 100 and (gift[0] == 0 or gift[1] in range(n))


def cut_part(numbers, n, sizes, is_right):
    """A test, or what a counter is given, at the beginning of the numbers, and the rest; None if there's none."""
    if not numbers or numbers[0] not in sizes:
        return None
    part = cut(numbers, sizes[numbers[0]])
    return part if part and is_right(part[0], n) else None


def parse_test(numbers, n):
    part = cut_part(numbers, n, {0: 3, 1: 3, 2: 4, 3: 4}, is_test)
    return list(part[0]) if part and not part[1] else None


def parse_branch(numbers, n):
    if n not in range(1, 5) or not numbers or numbers[0] not in range(4):
        return None
    tests, move, rest = [], [], numbers[1:]
    for parts, count, sizes, is_right in (
        (tests, numbers[0], {0: 3, 1: 3, 2: 4, 3: 4}, is_test), (move, n, {0: 2, 1: 3}, is_gift),
    ):
        for place in range(count):
            part = cut_part(rest, n, sizes, is_right)
            if not part:
                return None
            parts.append(list(part[0]))
            rest = part[1]
    return None if rest else (tests, move)


class Model:
    def __init__(self):
        self.tests, self.move, self.begin = [], [[1, 0, 0]], (0,)

    def answer(self, call):
        """The numbers answered; None, if a plain walk takes too long to tell."""
        return getattr(self, call[0])(*call[1:])

    def ending(self):
        return ending(self.tests, self.move, self.begin)

    def hold(self, state):
        if any(abs(value) > MOST for value in state):
            return False
        self.begin = tuple(state)
        return True

    def loop(self, n, branch):
        parsed = parse_branch(branch, n)
        if parsed is None:
            return [-1]
        self.tests, self.move = parsed
        self.begin = (0,) * n
        return [len(self.tests)]

    def values(self, row):
        return [0] if len(row) == len(self.move) and self.hold(row) else [-1]

    def rounds(self):
        how, end = self.ending()
        return [how, end, *state_after(self.move, self.begin, end)]

    def at(self, n):
        how, end = self.ending()
        if not 0 <= n <= 10 ** 12 or (how < 2 and n > end):
            return [-3]
        return [0, *state_after(self.move, self.begin, n)]

    def rounds_held(self, test):
        """-1 or -7 if it's refused, None if it's too long; else after which rounds the test holds."""
        parsed = parse_test(test, len(self.move))
        if parsed is None:
            return -1, []
        how, states = walk(self.tests, self.move, self.begin, 700)
        if how is None:
            return None, []
        return (-7 if how == 2 else 0), [n for n, state in enumerate(states) if holds(parsed, state)]

    def first(self, test):
        refusal, there = self.rounds_held(test)
        if refusal is None or refusal == -1:
            return refusal and [refusal]
        return [1, there[0]] if there else [0]

    def last(self, test):
        refusal, there = self.rounds_held(test)
        if refusal is None or refusal < 0:
            return refusal and [refusal]
        return [1, there[-1]] if there else [0]

    def times(self, test):
        refusal, there = self.rounds_held(test)
        if refusal is None or refusal < 0:
            return refusal and [refusal]
        return [len(there)]

    def extremes(self, counter):
        if counter not in range(len(self.move)):
            return [-2]
        how, end = self.ending()
        states = stretch(self.move, self.begin, 0, NEAR)
        if how < 2:
            states = states[:end + 1] + stretch(self.move, self.begin, max(0, end - NEAR), min(end, NEAR) + 1)
        found = [state[counter] for state in states]
        return [min(found), max(found)]

    def starts(self, counter, lo, hi):
        if counter not in range(len(self.move)):
            return [-2]
        if lo < -MOST or hi > MOST or lo > hi:
            return [-1]
        if hi - lo > 59:
            return [-6]
        counts, other = [0, 0, 0], [0]
        for value in range(hi, lo - 1, -1):
            begin = self.begin[:counter] + (value,) + self.begin[counter + 1:]
            how = ending(self.tests, self.move, begin)[0]
            counts[how] += 1
            if how:
                other = [1, value]
        return counts + other

    def leap(self):
        how, end = self.ending()
        return [end] if how == 0 and self.hold(state_after(self.move, self.begin, end)) else [-4]

    def jump(self, n):
        answer = self.at(n)
        return answer if answer == [-3] or self.hold(answer[1:]) else [-4]

    def plain(self):
        state, n = self.begin, 0
        while all_hold(self.tests, state):
            if n == 2000:
                return [2, n, *state]
            state, n = moved(self.move, state), n + 1
        return [0, n, *state]

    def told(self):
        return [len(self.move), *branch_numbers(self.tests, self.move), *self.begin]
