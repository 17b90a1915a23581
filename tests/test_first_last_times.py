"""Point 2: first, last, times."""

import unittest

from asking import ask, ask_last, at, first, last, loop, rounds, times, values

FAR = 10 ** 12
HUGE = 10 ** 18
STAY = (1, 0, 0)
UP = (1, 0, 1)

# Counter 0 from 0 to 10, counter 1 from 5 down to -5.
TEN = (loop(2, 1, 0, 0, 9, 1, 0, 1, 1, 1, -1), values(0, 5))
NEVER = (loop(2, 0, 1, 1, 0, 1, 0, 0), values(3, 8))
FAR_UP = (loop(2, 0, 1, 0, 1, 1, 1, 0),)

WRONG_TESTS = (
    (), (0,), (0, 0), (1, 1), (2, 0), (2, 0, 1), (3, 0), (3, 0, 2), (0, 0, 5, 0), (1, 0, 5, 0), (2, 0, 1, 5, 0),
    (3, 0, 2, 1, 0), (0, 0, 5, 0, 0, 5), (4, 0, 5), (4, 0, 1, 5), (-1, 0, 5), (HUGE, 0, 5), (0, 2, 5), (1, 2, 5),
    (2, 2, 0, 5), (2, 0, 2, 5), (3, 2, 2, 0), (0, -1, 5), (1, -1, 5), (2, -1, 0, 5), (2, 0, -1, 5), (3, -1, 2, 0),
    (0, HUGE, 5), (0, 0, 1000000), (0, 0, -1000000), (1, 0, 1000000), (1, 0, -1000000), (2, 0, 1, 1000000),
    (2, 0, 1, -1000000), (2, 0, 1, HUGE), (3, 0, 0, 0), (3, 0, 1, 0), (3, 0, 5, 0), (3, 0, 7, 0), (3, 0, 8, 0),
    (3, 0, -2, 0), (3, 0, 2, 2), (3, 0, 3, 3), (3, 0, 4, 4), (3, 0, 6, 6), (3, 0, 6, -1), (1, 0, 0, 5),
)


def all_three(calls, test):
    return ask(*calls, first(*test), last(*test), times(*test))[len(calls):]


class Refusals(unittest.TestCase):
    def test_what_is_not_whole_a_test(self):
        for calls in (TEN, NEVER, FAR_UP):
            for test in WRONG_TESTS:
                with self.subTest(calls=calls, test=test):
                    self.assertEqual(all_three(calls, test), [[-1], [-1], [-1]])

    def test_counters_of_another_loop(self):
        for n in range(1, 5):
            for counter in range(6):
                with self.subTest(n=n, counter=counter):
                    calls = (loop(4, 0, *STAY * 4), loop(n, 1, 0, 0, -1, *STAY * n))
                    answer = [[1, 0], [1, 0], [1]] if counter < n else [[-1], [-1], [-1]]
                    self.assertEqual(all_three(calls, (0, counter, 0)), answer)
                    self.assertEqual(all_three(calls, (2, 0, counter, 0)), answer)
                    self.assertEqual(all_three(calls, (3, counter, 6, 0)), answer)

    def test_last_and_times_where_it_never_ends(self):
        for test in ((0, 0, 3), (1, 0, 999999), (2, 0, 1, 0), (3, 0, 4, 3), (3, 0, 4, 1)):
            with self.subTest(test=test):
                self.assertEqual(all_three(NEVER, test)[1:], [[-7], [-7]])
        self.assertEqual(ask(last(0, 0, 5), times(0, 0, 5), first(0, 0, 5)), [[-7], [-7], [1, 0]])

    def test_they_change_nothing(self):
        self.assertEqual(
            ask(*TEN, first(0, 1, 2), last(0, 1, 2), times(0, 1, 2), first(), last(9, 9), times(1), rounds(), at(0))[5:],
            [[-1], [-1], [-1], [0, 10, 10, -5], [0, 0, 5]])


class WhereItIsOver(unittest.TestCase):
    def test_tests_of_one_counter(self):
        for test, answer in (
            ((0, 0, -1), [[0], [0], [0]]),
            ((0, 0, 0), [[1, 0], [1, 0], [1]]),
            ((0, 0, 4), [[1, 0], [1, 4], [5]]),
            ((0, 0, 9), [[1, 0], [1, 9], [10]]),
            ((0, 0, 10), [[1, 0], [1, 10], [11]]),
            ((0, 0, 999999), [[1, 0], [1, 10], [11]]),
            ((0, 0, -999999), [[0], [0], [0]]),
            ((1, 0, 11), [[0], [0], [0]]),
            ((1, 0, 10), [[1, 10], [1, 10], [1]]),
            ((1, 0, 4), [[1, 4], [1, 10], [7]]),
            ((1, 0, 0), [[1, 0], [1, 10], [11]]),
            ((1, 1, 5), [[1, 0], [1, 0], [1]]),
            ((1, 1, 0), [[1, 0], [1, 5], [6]]),
            ((0, 1, -5), [[1, 10], [1, 10], [1]]),
            ((0, 1, -6), [[0], [0], [0]]),
            ((3, 0, 4, 2), [[1, 2], [1, 10], [3]]),
            ((3, 0, 6, 5), [[1, 5], [1, 5], [1]]),
            ((3, 0, 2, 0), [[1, 0], [1, 10], [6]]),
            ((3, 0, 3, 1), [[1, 1], [1, 10], [4]]),
            ((3, 1, 6, 2), [[1, 3], [1, 9], [2]]),
            ((3, 1, 3, 2), [[1, 0], [1, 9], [4]]),
        ):
            with self.subTest(test=test):
                self.assertEqual(all_three(TEN, test), answer)

    def test_below(self):
        for test, answer in (
            ((2, 0, 0, 0), [[1, 0], [1, 10], [11]]),
            ((2, 0, 0, 7), [[1, 0], [1, 10], [11]]),
            ((2, 1, 1, -1), [[0], [0], [0]]),
            ((2, 0, 1, 0), [[1, 0], [1, 2], [3]]),
            ((2, 0, 1, -5), [[1, 0], [1, 0], [1]]),
            ((2, 0, 1, -6), [[0], [0], [0]]),
            ((2, 0, 1, 15), [[1, 0], [1, 10], [11]]),
            ((2, 0, 1, 14), [[1, 0], [1, 9], [10]]),
            ((2, 1, 0, 0), [[1, 3], [1, 10], [8]]),
            ((2, 1, 0, -15), [[1, 10], [1, 10], [1]]),
            ((2, 1, 0, -16), [[0], [0], [0]]),
        ):
            with self.subTest(test=test):
                self.assertEqual(all_three(TEN, test), answer)

    def test_the_only_state(self):
        calls = (loop(1, 1, 0, 0, 9, *UP), values(10))
        self.assertEqual(all_three(calls, (1, 0, 10)), [[1, 0], [1, 0], [1]])
        self.assertEqual(all_three(calls, (1, 0, 11)), [[0], [0], [0]])
        self.assertEqual(all_three(calls, (3, 0, 4, 2)), [[1, 0], [1, 0], [1]])
        self.assertEqual(all_three(calls, (3, 0, 4, 3)), [[0], [0], [0]])

    def test_states_ahead_of_what_is_even(self):
        # Counter 3 is 5 in the first state, then 40, 30, 20, and from there on 10 more than counter 0 three rounds ago.
        calls = (loop(4, 1, 0, 0, 99, 1, 0, 10, 1, 0, 0, 1, 1, 0, 1, 2, 0), values(20, 30, 40, 5))
        self.assertEqual(ask(*calls, at(1), at(2), at(3), at(4), rounds())[2:],
                         [[0, 30, 20, 30, 40], [0, 40, 30, 20, 30], [0, 50, 40, 30, 20], [0, 60, 50, 40, 30],
                          [0, 8, 100, 90, 80, 70]])
        self.assertEqual(all_three(calls, (0, 3, 20)), [[1, 0], [1, 3], [2]])
        self.assertEqual(all_three(calls, (0, 3, 35)), [[1, 0], [1, 4], [4]])
        self.assertEqual(all_three(calls, (1, 3, 40)), [[1, 1], [1, 8], [5]])
        self.assertEqual(all_three(calls, (3, 3, 4, 1)), [[1, 0], [1, 0], [1]])

    def test_a_ring(self):
        # Two values change places: counter 0 is 0 2 1 3 2 4 and so on.
        calls = (loop(2, 1, 0, 0, 999999, 1, 1, 2, 1, 0, -1),)
        self.assertEqual(ask_last(*calls, rounds()), [0, 1999997, 1000000, 999997])
        self.assertEqual(all_three(calls, (1, 0, 500000)), [[1, 999997], [1, 1999997], [1000000]])
        self.assertEqual(all_three(calls, (0, 0, 500000)), [[1, 0], [1, 1000000], [1000000]])
        self.assertEqual(all_three(calls, (3, 0, 6, 0))[0], [1, 0])

    def test_nothing_beyond_the_end_counts(self):
        calls = (loop(1, 2, 0, 0, 99, 3, 0, 2, 0, 1, 0, 2),)
        self.assertEqual(all_three(calls, (1, 0, 100)), [[1, 50], [1, 50], [1]])
        self.assertEqual(all_three(calls, (1, 0, 101)), [[0], [0], [0]])
        self.assertEqual(all_three(calls, (3, 0, 4, 2)), [[1, 1], [1, 49], [25]])


class WhereItIsBeyond(unittest.TestCase):
    def test_very_many_rounds(self):
        calls = (loop(1, 0, 1, 0, 99),)
        end = 10101010102
        self.assertEqual(all_three(calls, (3, 0, 2, 0)), [[1, 0], [1, end], [end // 2 + 1]])
        self.assertEqual(all_three(calls, (3, 0, 2, 1)), [[1, 1], [1, end - 1], [end // 2]])
        self.assertEqual(all_three(calls, (3, 0, 3, 0)), [[1, 0], [1, end], [end + 1]])
        self.assertEqual(all_three(calls, (3, 0, 3, 1)), [[0], [0], [0]])
        self.assertEqual(all_three(calls, (0, 0, 999999)), [[1, 0], [1, 10101], [10102]])
        self.assertEqual(all_three(calls, (1, 0, 999999)), [[1, 10101], [1, end], [end - 10100]])
        self.assertEqual(all_three(calls, (1, 0, 999998)), [[1, 10101], [1, end], [end - 10100]])
        self.assertEqual(all_three(calls, (1, 0, -999999)), [[1, 0], [1, end], [end + 1]])
        self.assertEqual(all_three(calls, (0, 0, -1)), [[0], [0], [0]])

    def test_going_down(self):
        calls = (loop(1, 0, 1, 0, -1), values(1000000))
        end = FAR + 1000001
        self.assertEqual(ask_last(*calls, rounds()), [1, end, -FAR - 1])
        self.assertEqual(all_three(calls, (0, 0, -999999)), [[1, 1999999], [1, end], [end - 1999998]])
        self.assertEqual(all_three(calls, (3, 0, 6, 3)), [[1, 1], [1, end - 2], [(end - 3) // 6 + 1]])

    def test_the_most_states(self):
        ring = (0, 1, 3, 1, 1, 0, 0, 1, 1, 0, 1, 2, 0)
        calls = (loop(4, *ring), values(*[-1000000] * 4))
        end = 4 * (FAR + 1000000) + 1
        self.assertEqual(all_three(calls, (1, 0, -999999)), [[1, 1], [1, end], [end]])
        self.assertEqual(all_three(calls, (2, 1, 0, -1)), [[1, 1], [1, end], [(end + 3) // 4]])
        self.assertEqual(all_three(calls, (2, 0, 3, 0)), [[1, 0], [1, end - 1], [(end + 3) // 4]])
        self.assertEqual(all_three(calls, (1, 0, 1)), [[1, 4000001], [1, end], [end - 4000000]])

    def test_the_last_state_alone(self):
        calls = (loop(2, 0, 1, 0, 10, 0, 7), values(1, 8))
        end = FAR // 10
        self.assertEqual(ask_last(*calls, rounds()), [1, end, FAR + 1, 7])
        self.assertEqual(all_three(calls, (1, 1, 8)), [[1, 0], [1, 0], [1]])
        self.assertEqual(all_three(calls, (0, 1, 7)), [[1, 1], [1, end], [end]])


class FirstWhereItNeverEnds(unittest.TestCase):
    def test_a_ring(self):
        calls = (loop(3, 0, 1, 2, 1, 1, 0, 10, 1, 1, -11), values(1, 2, 3))
        # Counter 0: 1 4 -8 1 4 -8 ..
        for test, answer in (
            ((0, 0, 1), [1, 0]), ((1, 0, 2), [1, 1]), ((0, 0, 0), [1, 2]), ((1, 0, 5), [0]), ((0, 0, -9), [0]),
            ((3, 0, 4, 1), [1, 0]), ((3, 0, 4, 0), [1, 1]), ((3, 0, 3, 2), [0]), ((2, 0, 0, 0), [1, 0]),
            ((2, 0, 0, -1), [0]), ((2, 1, 2, 0), [1, 0]), ((2, 2, 1, -14), [1, 1]), ((2, 2, 1, -21), [0]),
        ):
            with self.subTest(test=test):
                self.assertEqual(ask_last(*calls, first(*test)), answer)

    def test_what_a_chain_brings(self):
        calls = (loop(4, 0, 0, 60, 1, 0, 10, 1, 1, 10, 1, 2, 10), values(0, 0, 0, 0))
        for test, answer in (((1, 0, 60), [1, 1]), ((1, 3, 90), [1, 4]), ((1, 3, 91), [0]), ((1, 3, 20), [1, 2]), ((1, 3, 21), [1, 3]),
                             ((1, 3, 1), [1, 1]), ((0, 3, 0), [1, 0])):
            with self.subTest(test=test):
                self.assertEqual(ask_last(*calls, first(*test)), answer)

    def test_two_rings_of_two(self):
        calls = (loop(4, 1, 0, 0, 9, 1, 1, 0, 1, 0, 0, 1, 3, 0, 1, 2, 0), values(3, 8, 9, 2))
        self.assertEqual(ask_last(*calls, first(2, 2, 0, 0)), [1, 1])
        self.assertEqual(ask_last(*calls, first(2, 2, 0, -7)), [0])


if __name__ == "__main__":
    unittest.main()
