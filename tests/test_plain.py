"""The call plain: run round by round, 2000 rounds at most."""

import unittest

from asking import ask, ask_last, at, jump, leap, loop, plain, rounds, told, values

STAY = (1, 0, 0)
UP = (1, 0, 1)


class Over(unittest.TestCase):
    def test_after_some_rounds(self):
        self.assertEqual(ask_last(loop(1, 1, 0, 0, 9, *UP), plain()), [0, 10, 10])
        self.assertEqual(
            ask_last(loop(2, 1, 1, 0, 10, 1, 0, -10, 1, 1, 1), values(45, 0), plain()), [0, 4, 5, 4])

    def test_after_0_rounds(self):
        self.assertEqual(ask_last(loop(1, 1, 0, 0, 9, *UP), values(10), plain()), [0, 0, 10])
        self.assertEqual(ask_last(loop(2, 1, 2, 0, 0, -1, 0, 5, 0, 6), values(-1, -2), plain()), [0, 0, -1, -2])

    def test_each_kind_of_test(self):
        for test, answer in (
            ((0, 0, 20), [0, 16, 21, -16]), ((1, 1, -20), [0, 21, 26, -21]), ((2, 0, 1, 12), [0, 4, 9, -4]),
            ((3, 0, 6, 5), [0, 1, 6, -1]), ((3, 1, 3, 0), [0, 1, 6, -1]), ((3, 1, 3, 1), [0, 0, 5, 0]),
        ):
            with self.subTest(test=test):
                self.assertEqual(
                    ask_last(loop(2, 1, *test, 1, 0, 1, 1, 1, -1), values(5, 0), plain()), answer)

    def test_after_about_2000_rounds(self):
        for most, answer in ((1998, [0, 1999, 1999]), (1999, [0, 2000, 2000]), (2000, [2, 2000, 2000]),
                             (2001, [2, 2000, 2000]), (999999, [2, 2000, 2000])):
            with self.subTest(most=most):
                self.assertEqual(
                    ask(loop(1, 1, 0, 0, most, *UP), plain(), rounds())[1:], [answer, [0, most + 1, most + 1]])

    def test_after_about_2000_rounds_of_a_ring(self):
        # Counter 2 counts the rounds, 0 and 1 change places, 3 less and 3 more.
        move = (1, 1, -3, 1, 0, 3, 1, 2, 1)
        for most, answer in ((1998, [0, 1999, 5, 10, 1999]), (1999, [0, 2000, 7, 8, 2000]),
                             (2000, [2, 2000, 7, 8, 2000])):
            with self.subTest(most=most):
                self.assertEqual(ask_last(loop(3, 1, 0, 2, most, *move), values(7, 8, 0), plain()), answer)


class Neither(unittest.TestCase):
    def test_where_it_never_ends(self):
        self.assertEqual(ask(plain(), values(-9), plain()), [[2, 2000, 0], [0], [2, 2000, -9]])
        turn = loop(3, 0, 1, 2, 1, 1, 0, 10, 1, 1, -11)
        self.assertEqual(ask_last(turn, values(1, 2, 3), plain()), [2, 2000, -8, 14, 0])
        self.assertEqual(ask_last(loop(2, 0, 0, 5, 1, 0, 7), values(3, 4), plain()), [2, 2000, 5, 12])

    def test_where_it_would_be_beyond_later(self):
        self.assertEqual(ask_last(loop(1, 0, 1, 0, 99), plain()), [2, 2000, 198000])
        self.assertEqual(ask_last(loop(1, 0, 1, 0, 99), values(1000000), plain()), [2, 2000, 1198000])
        self.assertEqual(ask_last(loop(1, 0, 1, 0, -99), values(-1000000), plain()), [2, 2000, -1198000])


class Unchanged(unittest.TestCase):
    def test_nothing_is_changed(self):
        branch = (1, 0, 0, 9, *UP)
        self.assertEqual(
            ask(loop(1, *branch), values(3), plain(), told(), plain(), at(0))[2:],
            [[0, 7, 10], [1, *branch, 3], [0, 7, 10], [0, 3]])
        self.assertEqual(
            ask(loop(1, 0, *UP), plain(), told(), plain())[1:], [[2, 2000, 2000], [1, 0, *UP, 0], [2, 2000, 2000]])

    def test_behind_jump_and_leap(self):
        calls = (loop(1, 1, 0, 0, 2500, *UP), plain(), jump(501), plain(), jump(1), plain(), leap(), plain())
        self.assertEqual(
            ask(*calls)[1:],
            [[2, 2000, 2000], [0, 501], [0, 2000, 2501], [0, 502], [0, 1999, 2501], [1999], [0, 0, 2501]])


if __name__ == "__main__":
    unittest.main()
