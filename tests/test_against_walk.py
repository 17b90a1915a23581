"""Many loops, held against what a plain walk, round by round, finds."""

import random
import unittest

from asking import ask, at, extremes, first, jump, last, leap, loop, plain, rounds, starts, times, told, values
from choosing import some_move, some_test, tests_that_hold
from walking import all_hold, branch_numbers, ending, holds, is_beyond, state_after, stretch, walk

# More than two strides of any loop: what holds through this many rounds at both ends, holds between them.
NEAR = 120


def asked(tests, move, begin, calls):
    answers = ask(loop(len(move), *branch_numbers(tests, move)), values(*begin), *calls)
    return answers[2:]


def span(states, counter):
    found = [state[counter] for state in states]
    return [min(found), max(found)]


def may_begin(state):
    return all(-1000000 <= value <= 1000000 for value in state)


def held(states, test):
    return [n for n, state in enumerate(states) if holds(test, state)]


class AgainstWalk(unittest.TestCase):
    def check_loop(self, tests, move, begin, chance, reach):
        how, states = walk(tests, move, begin, 700)
        if how is None:
            return False
        end = len(states) - 1
        answer = [how, end, *states[-1]] if how < 2 else [2, 0, *begin]
        self.assertEqual(asked(tests, move, begin, [rounds()]), [answer])
        self.check_at(tests, move, begin, chance, how, states)
        self.check_extremes(tests, move, begin, states)
        self.check_plain(tests, move, begin, how, states)
        self.check_moves_on(tests, move, begin, chance, how, states)
        for place in range(6):
            test = some_test(chance, len(move), reach)
            there = held(states, test)
            answers = asked(tests, move, begin, [first(*test), last(*test), times(*test)])
            self.assertEqual(answers[0], [1, there[0]] if there else [0], test)
            if how == 2:
                self.assertEqual(answers[1:], [[-7], [-7]], test)
            else:
                self.assertEqual(answers[1:], [[1, there[-1]] if there else [0], [len(there)]], test)
        return True

    def check_at(self, tests, move, begin, chance, how, states):
        end = len(states) - 1
        places = [0, end, chance.randint(0, end), min(end, chance.randint(0, 60))]
        expected = [[0, *states[n]] for n in places]
        if how < 2:
            places += [end + 1, 10 ** 12]
            expected += [[-3], [-3]]
        else:
            places += [end + 1, chance.randint(0, 10 ** 12)]
            expected += [[0, *state_after(move, begin, n)] for n in places[-2:]]
        self.assertEqual(asked(tests, move, begin, [at(n) for n in places]), expected)

    def check_extremes(self, tests, move, begin, states):
        counters = range(len(move))
        self.assertEqual(
            asked(tests, move, begin, [extremes(counter) for counter in counters]),
            [span(states, counter) for counter in counters])

    def check_plain(self, tests, move, begin, how, states):
        answer = [2, 2000, *state_after(move, begin, 2000)] if how == 2 else [how, len(states) - 1, *states[-1]]
        self.assertEqual(asked(tests, move, begin, [plain()]), [answer])

    def check_moves_on(self, tests, move, begin, chance, how, states):
        """leap, and jump, and what is told and asked behind them."""
        whole = [len(move), *branch_numbers(tests, move)]
        end = len(states) - 1
        n = chance.randint(0, end)
        leapt = states[-1] if how == 0 and may_begin(states[-1]) else None
        self.assertEqual(
            asked(tests, move, begin, [leap(), told(), leap()]),
            [[end], [*whole, *leapt], [0]] if leapt else [[-4], [*whole, *begin], [-4]])
        jumped = states[n] if may_begin(states[n]) else None
        left = [how, end - n, *states[-1]] if how < 2 else [2, 0, *states[n]]
        self.assertEqual(
            asked(tests, move, begin, [jump(n), told()]),
            [[0, *jumped], [*whole, *jumped]] if jumped else [[-4], [*whole, *begin]])
        if jumped:
            self.assertEqual(asked(tests, move, begin, [jump(n), rounds()])[1], left)

    def test_small_loops(self):
        chance = random.Random(20)
        walked = [0, 0]
        for number in range(4000):
            n = chance.randint(1, 4)
            reach = chance.choice((6, 30, 200))
            begin = [chance.randint(-reach, reach) for counter in range(n)]
            move = some_move(chance, n, chance.choice((2, 9, 99)))
            tests = tests_that_hold(chance, n, reach, begin)
            with self.subTest(number=number, tests=tests, move=move, begin=begin):
                walked[self.check_loop(tests, move, begin, chance, reach)] += 1
        self.assertGreater(walked[True], 2000)


class Starts(unittest.TestCase):
    def test_beginnings_close_by(self):
        chance = random.Random(23)
        mixed = [0, 0]
        for number in range(2500):
            n = chance.randint(1, 4)
            begin = [chance.randint(-6, 6) for counter in range(n)]
            move = some_move(chance, n, chance.choice((0, 1, 6)))
            tests = tests_that_hold(chance, n, 8, begin)
            counter = chance.randrange(n)
            lo = chance.randint(-9, 6)
            hi = lo + chance.randint(0, 7)
            ways = [ending(tests, move, begin[:counter] + [value] + begin[counter + 1:])[0] for value in range(lo, hi + 1)]
            others = [lo + place for place, way in enumerate(ways) if way != 0]
            answer = [ways.count(0), ways.count(1), ways.count(2)] + ([1, others[0]] if others else [0])
            with self.subTest(number=number, tests=tests, move=move, begin=begin, counter=counter, lo=lo, hi=hi):
                self.assertEqual(asked(tests, move, begin, [starts(counter, lo, hi)]), [answer])
            for way in (1, 2):
                mixed[way - 1] += 0 < ways.count(way) < len(ways)
        self.assertGreater(min(mixed), 20)


class FarLoops(unittest.TestCase):
    """Values grow evenly from stride to stride, so what a test does near both ends tells what it does between."""

    def check_far(self, tests, move, begin, chance):
        answer = asked(tests, move, begin, [rounds()])[0]
        how, end = answer[:2]
        self.assertIn(how, (0, 1))
        self.assertEqual(answer[2:], list(state_after(move, begin, end)))
        near = stretch(move, begin, 0, NEAR)[:end]
        far = stretch(move, begin, max(0, end - NEAR), min(NEAR, end) + 1)
        for state in near + far[:-1]:
            self.assertTrue(all_hold(tests, state))
            self.assertFalse(is_beyond(state))
        self.assertEqual(is_beyond(far[-1]), how == 1)
        if how == 0:
            self.assertFalse(all_hold(tests, far[-1]))
        for place in range(4):
            self.check_test(tests, move, begin, end, some_test(chance, len(move), 999999))
        self.assertEqual(
            asked(tests, move, begin, [extremes(counter) for counter in range(len(move))]),
            [span(near + far, counter) for counter in range(len(move))])
        self.check_moves_on(tests, move, begin, how, end, far[-1], chance)

    def check_moves_on(self, tests, move, begin, how, end, final, chance):
        leapt = how == 0 and may_begin(final)
        self.assertEqual(
            asked(tests, move, begin, [leap(), at(0)]),
            [[end], [0, *final]] if leapt else [[-4], [0, *begin]])
        n = min(chance.randint(0, end), chance.choice((10 ** 4, 10 ** 5, 10 ** 12)))
        state = state_after(move, begin, n)
        jumped = may_begin(state)
        self.assertEqual(
            asked(tests, move, begin, [jump(n), at(0), rounds()]),
            [[0, *state], [0, *state], [how, end - n, *final]] if jumped
            else [[-4], [0, *begin], [how, end, *final]])

    def check_test(self, tests, move, begin, end, test):
        earliest, latest, many = asked(tests, move, begin, [first(*test), last(*test), times(*test)])
        if earliest == [0]:
            self.assertEqual((latest, many), ([0], [0]))
            low, high = end + 1, -1
        else:
            low, high = earliest[1], latest[1]
            self.assertEqual((earliest[0], latest[0]), (1, 1))
            self.assertTrue(0 <= low <= high <= end and 1 <= many[0] <= high - low + 1)
            self.assertTrue(holds(test, state_after(move, begin, low)))
            self.assertTrue(holds(test, state_after(move, begin, high)))
        self.check_none(move, begin, test, 0, min(low, end + 1) - 1)
        self.check_none(move, begin, test, high + 1, end)
        self.check_count(tests, move, begin, end, test, many[0])

    def check_none(self, move, begin, test, start, stop):
        """That the test holds at none of the states from start to stop, looked at near both."""
        if start > stop:
            return
        size = min(NEAR, stop - start + 1)
        for state in stretch(move, begin, start, size) + stretch(move, begin, stop - size + 1, size):
            self.assertFalse(holds(test, state))

    def check_count(self, tests, move, begin, end, test, many):
        """Of the test and those that hold just where it doesn't, the counts make up all states."""
        if test[0] == 0:
            others = [[1, test[1], test[2] + 1]]
        elif test[0] == 1:
            others = [[0, test[1], test[2] - 1]]
        elif test[0] == 2:
            others = [[2, test[2], test[1], -test[3] - 1]]
        else:
            others = [[3, test[1], test[2], r] for r in range(test[2]) if r != test[3]]
        if any(abs(other[-1]) > 999999 for other in others):
            return
        counts = asked(tests, move, begin, [times(*other) for other in others])
        self.assertEqual(many + sum(count[0] for count in counts), end + 1)

    def test_loops_that_no_walk_ends(self):
        chance = random.Random(21)
        ways = [0, 0]
        for number in range(3000):
            n = chance.randint(1, 4)
            begin = [chance.randint(-1000000, 1000000) for counter in range(n)]
            move = some_move(chance, n, chance.choice((1, 3, 99)))
            tests = tests_that_hold(chance, n, 999999, begin)
            if walk(tests, move, begin, 300)[0] is not None:
                continue
            with self.subTest(number=number, tests=tests, move=move, begin=begin):
                ways[asked(tests, move, begin, [rounds()])[0][0]] += 1
                self.check_far(tests, move, begin, chance)
        self.assertGreater(min(ways), 100)

    def test_counts_of_some_thousand_states(self):
        chance = random.Random(22)
        for number in range(40):
            n = chance.randint(1, 4)
            begin = [chance.randint(-3000, 3000) for counter in range(n)]
            move = some_move(chance, n, 3)
            tests = [[0, 0, chance.randint(3000, 9000)], [1, 0, chance.randint(-9000, -3000)]]
            how, states = walk(tests, move, begin, 60000)
            if how != 0:
                continue
            test = some_test(chance, n, 5000)
            with self.subTest(number=number, move=move, begin=begin, test=test):
                self.assertEqual(
                    asked(tests, move, begin, [rounds(), times(*test)]),
                    [[0, len(states) - 1, *states[-1]], [len(held(states, test))]])


if __name__ == "__main__":
    unittest.main()
