"""Point 2: at."""

import unittest

from asking import ask, ask_last, at, loop, rounds, values

FAR = 10 ** 12
HUGE = 10 ** 18
STAY = (1, 0, 0)
TENS = (loop(2, 1, 1, 0, 10, 1, 0, -10, 1, 1, 1), values(45, 0))


class At(unittest.TestCase):
    def test_up_to_the_end_and_no_further(self):
        self.assertEqual(
            ask(*TENS, rounds(), at(0), at(1), at(3), at(4), at(5), at(6), at(FAR))[2:],
            [[0, 4, 5, 4], [0, 45, 0], [0, 35, 1], [0, 15, 3], [0, 5, 4], [-3], [-3], [-3]])

    def test_a_loop_over_after_0_rounds(self):
        self.assertEqual(ask(*TENS, values(9, 1), at(0), at(1))[3:], [[0, 9, 1], [-3]])

    def test_n_too_small_or_too_large(self):
        for calls in (TENS, (loop(1, 0, *STAY),), (loop(1, 0, 1, 0, 1),), (values(7),)):
            for n in (-1, -2, -FAR, -HUGE, FAR + 1, 2 * FAR, HUGE):
                with self.subTest(calls=calls, n=n):
                    self.assertEqual(ask_last(*calls, at(n)), [-3])

    def test_n_too_large_where_it_makes_more_rounds(self):
        ring = (0, 1, 3, 1, 1, 0, 0, 1, 1, 0, 1, 2, 0)
        self.assertEqual(
            ask(loop(4, *ring), at(FAR), at(FAR + 1), at(FAR - 1))[1:],
            [[0] + [FAR // 4] * 4, [-3], [0, FAR // 4, FAR // 4, FAR // 4, FAR // 4 - 1]])

    def test_where_it_ends_beyond(self):
        self.assertEqual(
            ask(loop(1, 0, 1, 0, 99), at(10101010101), at(10101010102), at(10101010103))[1:],
            [[0, 999999999999], [0, 1000000000098], [-3]])

    def test_where_it_never_ends(self):
        turn = loop(3, 0, 1, 2, 1, 1, 0, 10, 1, 1, -11)
        self.assertEqual(
            ask(turn, values(1, 2, 3), at(0), at(FAR), at(FAR - 1), at(FAR - 2), at(1), at(12345))[2:],
            [[0, 1, 2, 3], [0, 4, 11, -9], [0, 1, 2, 3], [0, -8, 14, 0], [0, 4, 11, -9], [0, 1, 2, 3]])

    def test_where_numbers_are_given(self):
        self.assertEqual(
            ask(loop(2, 0, 0, 5, 1, 0, 7), values(3, 4), at(0), at(1), at(2), at(3), at(FAR))[2:],
            [[0, 3, 4], [0, 5, 10], [0, 5, 12], [0, 5, 12], [0, 5, 12]])

    def test_nothing_is_changed(self):
        self.assertEqual(ask(*TENS, at(3), at(9), at(0), rounds())[3:], [[-3], [0, 45, 0], [0, 4, 5, 4]])


if __name__ == "__main__":
    unittest.main()
