"""How a loop ends, after how many rounds, and with which values."""

import unittest

from asking import ask, ask_last, at, loop, rounds, values

FAR = 10 ** 12
UP = (1, 0, 1)
STAY = (1, 0, 0)


class Over(unittest.TestCase):
    def test_each_kind_of_test_ends_it(self):
        for branch, begin, answer in (
            ((1, 0, 0, 9, *UP), (0,), [0, 10, 10]),
            ((1, 0, 0, -9, *UP), (-20,), [0, 12, -8]),
            ((1, 1, 0, 10, 1, 0, -3), (20,), [0, 4, 8]),
            ((1, 1, 0, 999999, 1, 0, -99), (1000000,), [0, 1, 999901]),
            ((1, 3, 0, 6, 5, 1, 0, 6), (6,), [0, 0, 6]),
            ((1, 3, 0, 3, 2, 1, 0, 1), (2,), [0, 1, 3]),
            ((1, 3, 0, 4, 0, 1, 0, 2), (4,), [0, 1, 6]),
            ((1, 3, 0, 2, 1, 0, 4), (1,), [0, 1, 4]),
        ):
            with self.subTest(branch=branch, begin=begin):
                self.assertEqual(ask_last(loop(1, *branch), values(*begin), rounds()), answer)

    def test_below_of_two_counters(self):
        branch = (1, 2, 0, 1, 5, 1, 0, 3, 1, 1, 1)
        for begin, answer in (((0, 0), [0, 3, 9, 3]), ((1, 0), [0, 3, 10, 3]), ((5, 0), [0, 1, 8, 1]),
                              ((6, 0), [0, 0, 6, 0]), ((-10, 10), [0, 13, 29, 23])):
            with self.subTest(begin=begin):
                self.assertEqual(ask_last(loop(2, *branch), values(*begin), rounds()), answer)

    def test_below_of_a_counter_and_itself(self):
        self.assertEqual(ask_last(loop(1, 1, 2, 0, 0, -1, *UP), rounds()), [0, 0, 0])
        self.assertEqual(ask_last(loop(1, 1, 2, 0, 0, 0, *STAY), rounds()), [2, 0, 0])
        self.assertEqual(ask_last(loop(1, 1, 2, 0, 0, 999999, *UP), rounds()), [1, FAR + 1, FAR + 1])

    def test_tests_that_do_not_hold_at_the_beginning(self):
        for test in ((0, 0, 4), (1, 0, 6), (2, 0, 1, 4), (3, 0, 2, 0), (3, 0, 6, 4)):
            with self.subTest(test=test):
                self.assertEqual(ask_last(loop(2, 1, *test, 1, 0, 1, 0, 9), values(5, 0), rounds()), [0, 0, 5, 0])

    def test_the_first_of_several_tests_to_fail_ends_it(self):
        tests = ((0, 0, 30), (1, 1, -10), (2, 0, 1, 12))
        for order in ((0, 1, 2), (1, 2, 0), (2, 0, 1), (2, 1, 0)):
            for begin, answer in (((0, 0), [0, 5, 10, -5]), ((28, 100), [0, 2, 32, 98]), ((-90, -7), [0, 4, -82, -11])):
                with self.subTest(order=order, begin=begin):
                    branch = (3, *[number for place in order for number in tests[place]], 1, 0, 2, 1, 1, -1)
                    self.assertEqual(ask_last(loop(2, *branch), values(*begin), rounds()), answer)

    def test_three_remainders_at_once(self):
        branch = (3, 3, 0, 4, 0, 3, 1, 6, 0, 3, 2, 3, 1, 1, 0, 4, 1, 1, 6, 1, 2, 3)
        self.assertEqual(ask_last(loop(3, *branch), values(0, 0, 1), rounds())[0], 1)
        self.assertEqual(ask_last(loop(3, *branch), values(0, 0, 2), rounds()), [0, 0, 0, 0, 2])
        branch = (3, 3, 0, 4, 0, 3, 1, 6, 0, 3, 2, 3, 1, 1, 0, 4, 1, 1, 6, 1, 2, 1)
        self.assertEqual(ask_last(loop(3, *branch), values(0, 0, 1), rounds()), [0, 1, 4, 6, 2])

    def test_remainders_of_values_below_0(self):
        for m in (2, 3, 4, 6):
            for value in range(-13, 14):
                for r in range(m):
                    with self.subTest(m=m, value=value, r=r):
                        how = 2 if (value - r) % m == 0 else 0
                        self.assertEqual(
                            ask_last(loop(1, 1, 3, 0, m, r, *STAY), values(value), rounds()), [how, 0, value])

    def test_minus_1_leaves_2_divided_by_3(self):
        self.assertEqual(ask_last(loop(1, 1, 3, 0, 3, 2, 1, 0, -3), values(-1), at(5)), [0, -16])

    def test_a_remainder_met_only_where_a_ring_comes_round(self):
        # Values go round three counters; the only odd one reaches counter 2 at last.
        branch = (1, 3, 2, 2, 0, 1, 2, 0, 1, 0, 0, 1, 1, 0)
        self.assertEqual(ask_last(loop(3, *branch), values(1, 2, 4), rounds()), [0, 2, 2, 4, 1])

    def test_long_ones(self):
        self.assertEqual(
            ask_last(loop(1, 1, 0, 0, 999999, *UP), values(-1000000), rounds()), [0, 2000000, 1000000])
        ring = (1, 3, 1, 1, 0, 0, 1, 1, 0, 1, 2, 0)
        self.assertEqual(
            ask_last(loop(4, 1, 0, 3, 999999, *ring), values(*[-1000000] * 4), rounds()),
            [0, 8000000, 1000000, 1000000, 1000000, 1000000])
        # A ring of three gains 1 a turn; the fourth counter stays: 3000000 turns, but for the last two rounds.
        self.assertEqual(
            ask_last(loop(4, 1, 2, 0, 3, 999999, 1, 2, 1, 1, 0, 0, 1, 1, 0, 1, 3, 0),
                     values(-1000000, -1000000, -1000000, 1000000), rounds()),
            [0, 3 * 2999999 + 1, 2000000, 1999999, 1999999, 1000000])


class Beyond(unittest.TestCase):
    def test_just_at_the_limit_is_not_beyond(self):
        self.assertEqual(
            ask(loop(1, 0, *UP), rounds(), at(FAR))[1:], [[1, FAR + 1, FAR + 1], [0, FAR]])
        self.assertEqual(
            ask(loop(1, 0, 1, 0, -1), rounds(), at(FAR))[1:], [[1, FAR + 1, -FAR - 1], [0, -FAR]])
        self.assertEqual(ask_last(loop(1, 0, 1, 0, 10), rounds()), [1, FAR // 10 + 1, FAR + 10])
        self.assertEqual(ask_last(loop(1, 0, 1, 0, -10), rounds()), [1, FAR // 10 + 1, -FAR - 10])
        self.assertEqual(ask_last(loop(1, 0, 1, 0, 10), values(1), rounds()), [1, FAR // 10, FAR + 1])
        self.assertEqual(ask_last(loop(1, 0, 1, 0, -10), values(-1), rounds()), [1, FAR // 10, -FAR - 1])

    def test_the_first_counter_to_be_beyond_ends_it(self):
        self.assertEqual(
            ask_last(loop(3, 0, 1, 0, 1, 1, 1, -50, 1, 2, 2), rounds()),
            [1, FAR // 50 + 1, FAR // 50 + 1, -FAR - 50, 2 * (FAR // 50 + 1)])
        end = (FAR - 1000000) // 7 + 1
        self.assertEqual(
            ask_last(loop(2, 0, 1, 0, 7, 1, 1, 7), values(0, 1000000), rounds()), [1, end, 7 * end, 7 * end + 1000000])

    def test_tests_that_go_on_holding(self):
        self.assertEqual(
            ask_last(loop(1, 3, 1, 0, -5, 2, 0, 0, 0, 3, 0, 3, 1, 1, 0, 3), values(-5), rounds()),
            [1, (FAR + 5) // 3 + 1, -5 + 3 * ((FAR + 5) // 3 + 1)])

    def test_tests_that_fail_at_last_come_first(self):
        # No test's number reaches as far as the values may go: a test that fails at all, fails long before.
        self.assertEqual(
            ask_last(loop(2, 1, 2, 0, 1, 999999, 1, 0, 99, 1, 1, 98), values(-1000000, 1000000), rounds()),
            [0, 3000000, 99 * 3000000 - 1000000, 98 * 3000000 + 1000000])

    def test_the_most_rounds_that_there_can_be(self):
        ring = (0, 1, 3, 1, 1, 0, 0, 1, 1, 0, 1, 2, 0)
        most = 4 * (FAR + 1000000) + 1
        self.assertEqual(
            ask_last(loop(4, *ring), values(*[-1000000] * 4), rounds()), [1, most, FAR + 1, FAR, FAR, FAR])
        ring = (0, 1, 3, -1, 1, 0, 0, 1, 1, 0, 1, 2, 0)
        self.assertEqual(
            ask_last(loop(4, *ring), values(*[1000000] * 4), rounds()), [1, most, -FAR - 1, -FAR, -FAR, -FAR])

    def test_the_fewest_rounds_that_there_can_be(self):
        end = (FAR - 1000000) // 99 + 1
        self.assertEqual(
            ask_last(loop(1, 0, 1, 0, 99), values(1000000), rounds()), [1, end, 1000000 + 99 * end])

    def test_a_ring_that_swings_is_beyond_at_its_height(self):
        # Two values change places, each 99 more one way and 98 less the other way: 1 more every two rounds.
        end = 2 * (FAR - 98) + 1
        self.assertEqual(ask_last(loop(2, 0, 1, 1, 99, 1, 0, -98), rounds()), [1, end, FAR + 1, FAR - 196])

    def test_chains_drawn_from_a_ring(self):
        # Counters 1, 2 and 3 have counter 0's value, one, two and three rounds later, 50 more each.
        self.assertEqual(
            ask_last(loop(4, 0, 1, 0, 10, 1, 0, 50, 1, 1, 50, 1, 2, 50), rounds()),
            [1, FAR // 10 - 11, FAR - 110, FAR - 70, FAR - 30, FAR + 10])


class Never(unittest.TestCase):
    def test_loops_that_stand_still(self):
        for branch in ((0, *STAY), (0, 0, 0), (1, 0, 0, 0, *STAY), (3, 0, 0, 5, 1, 0, -5, 3, 0, 2, 0, *STAY)):
            with self.subTest(branch=branch):
                self.assertEqual(ask_last(loop(1, *branch), rounds()), [2, 0, 0])

    def test_the_values_are_those_at_the_beginning(self):
        self.assertEqual(
            ask_last(loop(4, 0, 1, 3, 1, 1, 0, -1, 1, 1, 5, 1, 2, -5), values(7, -8, 9, 10), rounds()),
            [2, 0, 7, -8, 9, 10])
        self.assertEqual(ask_last(loop(2, 0, 0, 5, 1, 0, 7), values(3, 4), rounds()), [2, 0, 3, 4])

    def test_a_ring_whose_values_all_pass(self):
        branch = (1, 0, 0, 9, 1, 2, 1, 1, 0, 1, 1, 1, -2)
        for begin, answer in (((9, 7, 8), [2, 0, 9, 7, 8]), ((9, 10, 8), [2, 0, 9, 10, 8]),
                              ((9, 7, 9), [0, 1, 10, 10, 5]), ((9, 11, 8), [0, 2, 10, 10, 8])):
            with self.subTest(begin=begin):
                self.assertEqual(ask_last(loop(3, *branch), values(*begin), rounds()), answer)

    def test_a_chain_that_passes_at_last(self):
        # The number reaches the tested counter in the fourth round.
        move = (0, 5, 1, 0, 0, 1, 1, 0, 1, 2, 0)
        self.assertEqual(ask_last(loop(4, 1, 0, 3, 5, *move), values(1, 2, 3, 4), rounds()), [2, 0, 1, 2, 3, 4])
        self.assertEqual(ask_last(loop(4, 1, 0, 3, 4, *move), values(1, 2, 3, 4), rounds()), [0, 4, 5, 5, 5, 5])


class Moves(unittest.TestCase):
    def states(self, n, move, begin, count):
        calls = [loop(n, 0, *move), values(*begin)] + [at(k) for k in range(count)]
        return [tuple(answer[1:]) for answer in ask(*calls)[2:]]

    def test_all_at_once_by_the_values_ahead(self):
        self.assertEqual(self.states(2, (1, 1, 0, 1, 0, 0), (3, 8), 4), [(3, 8), (8, 3), (3, 8), (8, 3)])

    def test_a_ring_of_three(self):
        self.assertEqual(
            self.states(3, (1, 2, 1, 1, 0, 10, 1, 1, -5), (1, 2, 3), 5),
            [(1, 2, 3), (4, 11, -3), (-2, 14, 6), (7, 8, 9), (10, 17, 3)])

    def test_a_chain_from_a_number(self):
        self.assertEqual(
            self.states(4, (0, -7, 1, 0, 1, 1, 1, 1, 1, 2, 1), (10, 20, 30, 40), 6),
            [(10, 20, 30, 40), (-7, 11, 21, 31), (-7, -6, 12, 22), (-7, -6, -5, 13), (-7, -6, -5, -4),
             (-7, -6, -5, -4)])

    def test_a_chain_the_other_way_round(self):
        self.assertEqual(
            self.states(4, (1, 1, 1, 1, 2, 1, 1, 3, 1, 0, 50), (10, 20, 30, 40), 6),
            [(10, 20, 30, 40), (21, 31, 41, 50), (32, 42, 51, 50), (43, 52, 51, 50), (53, 52, 51, 50),
             (53, 52, 51, 50)])

    def test_several_from_one(self):
        self.assertEqual(
            self.states(4, (1, 2, 1, 1, 2, -1, 1, 2, 5, 1, 2, 0), (9, 9, 0, 9), 4),
            [(9, 9, 0, 9), (1, -1, 5, 0), (6, 4, 10, 5), (11, 9, 15, 10)])

    def test_a_tail_behind_a_ring(self):
        self.assertEqual(
            self.states(3, (1, 1, 2, 1, 0, 0, 1, 0, 0), (1, 5, 100), 5),
            [(1, 5, 100), (7, 1, 1), (3, 7, 7), (9, 3, 3), (5, 9, 9)])


if __name__ == "__main__":
    unittest.main()
