"""Point 2: extremes, and among which states they are."""

import unittest

from asking import ask, ask_last, at, extremes, loop, rounds, told, values

FAR = 10 ** 12
HUGE = 10 ** 18
STAY = (1, 0, 0)

# Counter 0 from 0 to 10, counter 1 from 5 down to -5, counter 2 stays, counter 3 is given 50.
TEN = (loop(4, 1, 0, 0, 9, 1, 0, 1, 1, 1, -1, 1, 2, 0, 0, 50), values(0, 5, -4, 7))


def all_extremes(calls, n):
    return ask(*calls, *[extremes(counter) for counter in range(n)])[len(calls):]


class Refusals(unittest.TestCase):
    def test_counters_that_are_not_there(self):
        for n in range(1, 5):
            for move in (STAY, (1, 0, 1), (0, 3)):
                calls = (loop(4, 0, *STAY * 4), loop(n, 0, *move * n))
                for counter in (-1, -2, -n, n, n + 1, 4, 5, FAR, -FAR, HUGE, -HUGE):
                    with self.subTest(n=n, move=move, counter=counter):
                        self.assertEqual(ask_last(*calls, extremes(counter)), [-2])

    def test_the_new_object_has_one(self):
        self.assertEqual(ask(extremes(0), extremes(1), extremes(-1)), [[0, 0], [-2], [-2]])

    def test_of_a_loop_that_is_over_at_once_too(self):
        self.assertEqual(ask_last(loop(2, 1, 0, 0, -1, *STAY * 2), extremes(2)), [-2])


class Over(unittest.TestCase):
    def test_rising_falling_staying_given(self):
        self.assertEqual(all_extremes(TEN, 4), [[0, 10], [-5, 5], [-4, -4], [7, 50]])

    def test_by_more_than_1(self):
        self.assertEqual(ask_last(loop(1, 1, 0, 0, 9, 1, 0, 3), values(-20), extremes(0)), [-20, 10])
        self.assertEqual(ask_last(loop(1, 1, 0, 0, 9, 1, 0, 99), values(9), extremes(0)), [9, 108])
        self.assertEqual(ask_last(loop(1, 1, 1, 0, 10, 1, 0, -10), values(45), extremes(0)), [5, 45])
        self.assertEqual(ask_last(loop(1, 1, 1, 0, -10, 1, 0, -99), values(-10), extremes(0)), [-109, -10])

    def test_a_number_given_from_above_and_below(self):
        for begin, number, answer in ((7, 50, [7, 50]), (7, -50, [-50, 7]), (7, 7, [7, 7]), (60, 50, [50, 60])):
            with self.subTest(begin=begin, number=number):
                calls = (loop(2, 1, 0, 0, 9, 1, 0, 1, 0, number), values(0, begin))
                self.assertEqual(ask_last(*calls, extremes(1)), answer)

    def test_after_0_rounds_there_is_the_beginning_alone(self):
        calls = (loop(4, 1, 0, 0, 9, 1, 1, 1, 1, 2, 1, 1, 3, 1, 0, 50), values(10, -20, 1000000, -1000000))
        self.assertEqual(
            all_extremes(calls, 4), [[10, 10], [-20, -20], [1000000, 1000000], [-1000000, -1000000]])

    def test_after_1_round_the_end_counts(self):
        self.assertEqual(all_extremes((loop(2, 1, 0, 0, 5, 0, 7, 1, 0, -3), values(1, 40)), 2), [[1, 7], [-2, 40]])

    def test_a_few_rounds_of_four_counters(self):
        # Nothing has grown evenly yet where it is over.
        for most, answer in ((0, [4, 4]), (1, [-3, 4]), (2, [-3, 90]), (3, [-3, 90]), (4, [-3, 90])):
            with self.subTest(most=most):
                calls = (loop(4, 1, 0, 0, most - 1, 1, 0, 1, 1, 0, 0, 1, 1, 0, 1, 2, 0), values(0, 90, -3, 4))
                self.assertEqual(ask(*calls, rounds(), extremes(3))[2:][0][:2], [0, most])
                self.assertEqual(ask_last(*calls, extremes(3)), answer)

    def test_the_least_one_on_the_way(self):
        # Counter 3 is 5 40 30 20 30 40 50 60 70, counter 2 is 40 30 20 30 40 and so on.
        calls = (loop(4, 1, 0, 0, 99, 1, 0, 10, 1, 0, 0, 1, 1, 0, 1, 2, 0), values(20, 30, 40, 5))
        self.assertEqual(all_extremes(calls, 4), [[20, 100], [20, 90], [20, 80], [5, 70]])

    def test_the_greatest_one_on_the_way(self):
        calls = (loop(4, 1, 1, 0, -99, 1, 0, -10, 1, 0, 0, 1, 1, 0, 1, 2, 0), values(-20, -30, -40, -5))
        self.assertEqual(all_extremes(calls, 4), [[-100, -20], [-90, -20], [-80, -20], [-70, -5]])

    def test_a_ring(self):
        # Counter 0 is 0 2 1 3 2 4 and so on, counter 1 is 0 -1 1 0 2 1: its greatest value isn't the last one.
        calls = (loop(2, 1, 0, 0, 999999, 1, 1, 2, 1, 0, -1),)
        self.assertEqual(ask_last(*calls, rounds()), [0, 1999997, 1000000, 999997])
        self.assertEqual(all_extremes(calls, 2), [[0, 1000000], [-1, 999998]])
        calls = (loop(2, 1, 1, 0, -999999, 1, 1, -2, 1, 0, 1),)
        self.assertEqual(all_extremes(calls, 2), [[-1000000, 0], [-999998, 1]])

    def test_a_ring_of_values_that_only_change_places(self):
        calls = (loop(4, 1, 0, 3, 3, 1, 1, 0, 1, 2, 0, 1, 0, 0, 1, 3, 1), values(7, -9, 30, 0))
        self.assertEqual(all_extremes(calls, 4), [[-9, 30], [-9, 30], [-9, 30], [0, 4]])
        calls = (loop(4, 1, 0, 3, 1, 1, 1, 0, 1, 2, 0, 1, 0, 0, 1, 3, 2), values(7, -9, 30, 0))
        self.assertEqual(all_extremes(calls, 4), [[-9, 7], [-9, 30], [7, 30], [0, 2]])

    def test_nothing_behind_the_end_counts(self):
        calls = (loop(1, 1, 3, 0, 6, 0, 1, 0, 3), values(0))
        self.assertEqual(ask_last(*calls, extremes(0)), [0, 3])

    def test_very_many_rounds(self):
        self.assertEqual(
            all_extremes((loop(2, 1, 2, 0, 1, 999999, 1, 0, 99, 1, 1, 98), values(-1000000, 1000000)), 2),
            [[-1000000, 99 * 3000000 - 1000000], [1000000, 98 * 3000000 + 1000000]])
        ring = (1, 3, 1, 1, 0, 0, 1, 1, 0, 1, 2, 0)
        self.assertEqual(
            all_extremes((loop(4, 1, 0, 3, 999999, *ring), values(*[-1000000] * 4)), 4), [[-1000000, 1000000]] * 4)


class Beyond(unittest.TestCase):
    def test_the_value_beyond_is_told(self):
        self.assertEqual(ask_last(loop(1, 0, 1, 0, 99), extremes(0)), [0, 1000000000098])
        self.assertEqual(ask_last(loop(1, 0, 1, 0, -99), extremes(0)), [-1000000000098, 0])
        self.assertEqual(ask_last(loop(1, 0, 1, 0, 1), values(-1000000), extremes(0)), [-1000000, FAR + 1])

    def test_the_others_beside_it(self):
        end = FAR // 10
        self.assertEqual(
            all_extremes((loop(4, 0, 1, 0, 10, 1, 1, -1, 1, 2, 0, 0, -8), values(1, 2, 3, 4)), 4),
            [[1, FAR + 1], [2 - end, 2], [3, 3], [-8, 4]])

    def test_a_ring(self):
        ring = (0, 1, 3, 1, 1, 0, 0, 1, 1, 0, 1, 2, 0)
        self.assertEqual(
            all_extremes((loop(4, *ring), values(*[-1000000] * 4)), 4),
            [[-1000000, FAR + 1]] + [[-1000000, FAR]] * 3)

    def test_a_ring_that_swings(self):
        # Counter 1 is 0 -98 1 -97 and so on; it's greatest a round before the end.
        end = 2 * (FAR - 98) + 1
        calls = (loop(2, 0, 1, 1, 99, 1, 0, -98),)
        self.assertEqual(ask(*calls, rounds(), at(10 ** 12))[1][:2], [1, end])
        self.assertEqual(all_extremes(calls, 2), [[0, FAR + 1], [-98, FAR - 98]])


class Never(unittest.TestCase):
    def test_one_that_stands_still(self):
        self.assertEqual(ask(values(-7), extremes(0)), [[0], [-7, -7]])
        self.assertEqual(all_extremes((loop(2, 0, 0, 5, 1, 0, 7), values(3, 40)), 2), [[3, 5], [10, 40]])

    def test_a_ring(self):
        # Counter 0: 1 4 -8 1 4 -8 ..
        calls = (loop(3, 0, 1, 2, 1, 1, 0, 10, 1, 1, -11), values(1, 2, 3))
        self.assertEqual(all_extremes(calls, 3), [[-8, 4], [2, 14], [-9, 3]])

    def test_each_state_of_a_ring_of_four(self):
        for turn in range(4):
            row = [5, -6, 70, 8]
            row = row[turn:] + row[:turn]
            with self.subTest(row=row):
                calls = (loop(4, 0, 1, 3, 0, 1, 0, 0, 1, 1, 0, 1, 2, 0), values(*row))
                self.assertEqual(all_extremes(calls, 4), [[-6, 70]] * 4)

    def test_what_a_chain_brings(self):
        calls = (loop(4, 0, 0, 5, 1, 0, 0, 1, 1, 0, 1, 2, 0), values(1, 90, -3, 4))
        self.assertEqual(all_extremes(calls, 4), [[1, 5], [1, 90], [-3, 90], [-3, 90]])
        calls = (loop(4, 0, 0, 60, 1, 0, 10, 1, 1, 10, 1, 2, 10),)
        self.assertEqual(all_extremes(calls, 4), [[0, 60], [0, 70], [0, 80], [0, 90]])

    def test_a_ring_of_three_behind_which_one_hangs(self):
        # Counter 3 is 1000, then 9 more than counter 2 a round ago.
        calls = (loop(4, 0, 1, 2, 1, 1, 0, 10, 1, 1, -11, 1, 2, 9), values(1, 2, 3, 1000))
        self.assertEqual(all_extremes(calls, 4), [[-8, 4], [2, 14], [-9, 3], [0, 1000]])


class Unchanged(unittest.TestCase):
    def test_nothing_is_changed(self):
        branch = [1, 0, 0, 9, 1, 0, 1, 1, 1, -1, 1, 2, 0, 0, 50]
        self.assertEqual(
            ask(*TEN, extremes(0), extremes(4), extremes(3), told())[2:],
            [[0, 10], [-2], [7, 50], [4, *branch, 0, 5, -4, 7]])


if __name__ == "__main__":
    unittest.main()
