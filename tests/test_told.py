"""The call told: the counters, the branch and the values that are held."""

import unittest

from asking import ask, ask_last, jump, leap, loop, told, values

HUGE = 10 ** 18
STAY = (1, 0, 0)
UP = (1, 0, 1)

BRANCHES = (
    (1, (0, *STAY)), (1, (0, 0, 0)), (1, (0, 0, 99)), (1, (0, 0, -99)), (1, (0, 1, 0, 99)), (1, (0, 1, 0, -99)),
    (1, (1, 0, 0, 999999, *STAY)), (1, (1, 0, 0, -999999, *UP)), (1, (1, 1, 0, 17, *STAY)), (1, (1, 1, 0, -17, *UP)),
    (1, (1, 2, 0, 0, 3, *STAY)), (1, (1, 3, 0, 6, 5, *STAY)), (1, (1, 3, 0, 2, 0, *STAY)),
    (2, (1, 2, 0, 1, -7, *STAY, 1, 1, 5)), (2, (1, 2, 1, 0, 999999, 0, 4, 1, 0, -5)), (2, (0, 1, 1, 0, 1, 0, 0)),
    (2, (2, 0, 1, 5, 0, 1, 5, 0, 0, 0, 1)), (2, (2, 3, 1, 4, 3, 1, 1, -1, 0, 1, 1, 1, 0)),
    (3, (3, 0, 2, 5, 1, 1, 6, 2, 2, 0, 7, 1, 2, 3, 0, 4, 1, 0, 5)), (3, (0, 0, 1, 1, 2, 2, 0, 3)),
    (4, (3, 3, 3, 6, 5, 3, 2, 4, 3, 3, 1, 3, 2, 1, 3, 99, 1, 2, -99, 1, 1, 0, 1, 0, 1)),
    (4, (3, *(2, 3, 2, -999999) * 3, *(1, 3, 99) * 4)), (4, (0, 0, 1, 0, 2, 0, 3, 0, 4)),
)


class Told(unittest.TestCase):
    def test_the_new_object(self):
        self.assertEqual(ask(told(), told()), [[1, 0, 1, 0, 0, 0]] * 2)

    def test_each_branch_as_it_was_handed_in(self):
        for n, branch in BRANCHES:
            with self.subTest(n=n, branch=branch):
                self.assertEqual(ask_last(loop(n, *branch), told()), [n, *branch] + [0] * n)

    def test_with_values(self):
        for n, branch in BRANCHES:
            row = [1000000, -1000000, 7, -8][:n]
            with self.subTest(n=n, branch=branch):
                self.assertEqual(ask_last(loop(n, *branch), values(*row), told()), [n, *branch, *row])

    def test_one_loop_behind_another(self):
        for n, branch in BRANCHES:
            for m, other in BRANCHES:
                with self.subTest(branch=branch, other=other):
                    calls = (loop(n, *branch), values(*[9] * n), loop(m, *other), told())
                    self.assertEqual(ask_last(*calls), [m, *other] + [0] * m)

    def test_behind_refusals(self):
        for n, branch in BRANCHES:
            row = [5, -6, 7, -8][:n]
            refused = (
                loop(0, *branch), loop(5, *branch), loop(n, *branch, 0), loop(n, *branch[:-1]), loop(n), loop(n, 4),
                loop(n, 0, *STAY * (n - 1), 0, 100), loop(1, 3, 0, 0, 1, 0, 0, 2, 0, 0, HUGE, *STAY),
                values(), values(*row, 1), values(*row[1:]), values(*row[1:], 1000001), values(*row[1:], -HUGE),
            )
            with self.subTest(n=n, branch=branch):
                self.assertEqual(
                    ask(loop(n, *branch), values(*row), *refused, told())[2:],
                    [[-1]] * len(refused) + [[n, *branch, *row]])

    def test_behind_leap_and_jump(self):
        branch = (2, 0, 0, 9, 3, 1, 2, 0, 1, 0, 1, 1, 1, 2)
        self.assertEqual(
            ask(loop(2, *branch), told(), jump(4), told(), jump(7), told(), leap(), told(), leap(), told())[1:],
            [[2, *branch, 0, 0], [0, 4, 8], [2, *branch, 4, 8], [-3], [2, *branch, 4, 8], [6], [2, *branch, 10, 20],
             [0], [2, *branch, 10, 20]])

    def test_behind_leap_and_jump_refused(self):
        self.assertEqual(
            ask(leap(), told(), jump(-1), told()), [[-4], [1, 0, 1, 0, 0, 0], [-3], [1, 0, 1, 0, 0, 0]])
        self.assertEqual(
            ask(loop(1, 0, *UP), values(8), leap(), told(), jump(10 ** 12), told(), jump(10 ** 11), told())[2:],
            [[-4], [1, 0, *UP, 8], [-3], [1, 0, *UP, 8], [-4], [1, 0, *UP, 8]])


if __name__ == "__main__":
    unittest.main()
