"""Point 1: loop and values, what they set and what they refuse."""

import unittest

from asking import ask, ask_last, at, first, loop, rounds, times, values

HUGE = 10 ** 18
STAY = (1, 0, 0)

WRONG_BRANCHES = (
    # too short
    (1, ()), (1, (0,)), (1, (0, 0)), (1, (0, 1)), (1, (0, 1, 0)), (1, (1,)), (1, (1, 0)), (1, (1, 0, 0)),
    (1, (1, 0, 0, 5)), (1, (1, 2, 0, 0)), (1, (1, 3, 0, 2)), (1, (1, 3, 0, 2, 1)), (1, (2, 0, 0, 5, *STAY)),
    (2, (0, *STAY)), (3, (0, *STAY, *STAY)), (4, (0, *STAY, *STAY, *STAY)), (4, (0, *STAY, *STAY, *STAY, 1, 0)),
    # numbers left over
    (1, (0, *STAY, 0)), (1, (0, 0, 5, 0)), (1, (0, *STAY, *STAY)), (2, (0, *STAY, *STAY, *STAY)),
    (1, (1, 0, 0, 5, *STAY, 7)), (1, (0, *STAY) * 2), (4, (0, *STAY * 5)),
    # how many tests: from 0 to 3
    (1, (4, *(0, 0, 5) * 4, *STAY)), (1, (-1, *STAY)), (1, (HUGE, *STAY)), (1, (-HUGE, *STAY)),
    # kinds of tests
    (1, (1, 4, 0, 5, *STAY)), (1, (1, 4, 0, 2, 1, *STAY)), (1, (1, -1, 0, 5, *STAY)), (1, (1, HUGE, 0, 5, *STAY)),
    (1, (1, 4, 0, 0, 5, *STAY)),
    # kinds of what is given
    (1, (0, 2, 0, 0)), (1, (0, 2, 0)), (1, (0, -1, 0, 0)), (1, (0, -1, 0)), (1, (0, HUGE, 0)),
    # counters that aren't there
    (1, (1, 0, 1, 5, *STAY)), (1, (1, 1, 1, 5, *STAY)), (1, (1, 2, 1, 0, 5, *STAY)), (1, (1, 2, 0, 1, 5, *STAY)),
    (1, (1, 3, 1, 2, 0, *STAY)), (1, (1, 0, -1, 5, *STAY)), (1, (1, 1, -1, 5, *STAY)), (1, (1, 2, -1, 0, 5, *STAY)),
    (1, (1, 2, 0, -1, 5, *STAY)), (1, (1, 3, -1, 2, 0, *STAY)), (1, (0, 1, 1, 0)), (1, (0, 1, -1, 0)),
    (2, (0, 1, 2, 0, *STAY)), (2, (0, *STAY, 1, 2, 0)), (3, (0, 1, 3, 0, *STAY * 2)), (4, (0, 1, 4, 0, *STAY * 3)),
    (4, (0, *STAY * 3, 1, HUGE, 0)), (4, (1, 0, 4, 5, *STAY * 4)), (2, (3, *(0, 1, 5) * 2, 0, 2, 5, *STAY * 2)),
    # numbers of moves
    (1, (0, 0, 100)), (1, (0, 0, -100)), (1, (0, 1, 0, 100)), (1, (0, 1, 0, -100)), (1, (0, 0, HUGE)),
    (2, (0, *STAY, 0, 100)), (2, (0, *STAY, 1, 0, -HUGE)),
    # numbers of tests
    (1, (1, 0, 0, 1000000, *STAY)), (1, (1, 0, 0, -1000000, *STAY)), (1, (1, 1, 0, 1000000, *STAY)),
    (1, (1, 1, 0, -1000000, *STAY)), (1, (1, 2, 0, 0, 1000000, *STAY)), (1, (1, 2, 0, 0, -1000000, *STAY)),
    (1, (2, 0, 0, 0, 1, 0, -HUGE, *STAY)), (1, (1, 2, 0, 0, HUGE, *STAY)),
    # m
    (1, (1, 3, 0, 0, 0, *STAY)), (1, (1, 3, 0, 1, 0, *STAY)), (1, (1, 3, 0, 5, 0, *STAY)), (1, (1, 3, 0, 7, 0, *STAY)),
    (1, (1, 3, 0, 8, 0, *STAY)), (1, (1, 3, 0, 12, 0, *STAY)), (1, (1, 3, 0, -2, 0, *STAY)),
    (1, (1, 3, 0, HUGE, 0, *STAY)),
    # r
    (1, (1, 3, 0, 2, 2, *STAY)), (1, (1, 3, 0, 3, 3, *STAY)), (1, (1, 3, 0, 4, 4, *STAY)), (1, (1, 3, 0, 6, 6, *STAY)),
    (1, (1, 3, 0, 2, -1, *STAY)), (1, (1, 3, 0, 6, -1, *STAY)), (1, (1, 3, 0, 4, HUGE, *STAY)),
)

RIGHT_BRANCHES = (
    (1, (0, 0, 99), 0), (1, (0, 0, -99), 0), (1, (0, 1, 0, 99), 0), (1, (0, 1, 0, -99), 0),
    (1, (1, 0, 0, 999999, *STAY), 1), (1, (1, 0, 0, -999999, *STAY), 1), (1, (1, 1, 0, 999999, *STAY), 1),
    (1, (1, 1, 0, -999999, *STAY), 1), (1, (1, 2, 0, 0, 999999, *STAY), 1), (1, (1, 2, 0, 0, -999999, *STAY), 1),
    (1, (1, 3, 0, 2, 0, *STAY), 1), (1, (1, 3, 0, 2, 1, *STAY), 1), (1, (1, 3, 0, 3, 0, *STAY), 1),
    (1, (1, 3, 0, 3, 2, *STAY), 1), (1, (1, 3, 0, 4, 0, *STAY), 1), (1, (1, 3, 0, 4, 3, *STAY), 1),
    (1, (1, 3, 0, 6, 0, *STAY), 1), (1, (1, 3, 0, 6, 5, *STAY), 1),
    (1, (2, 0, 0, 5, 1, 0, 5, *STAY), 2), (1, (3, 0, 0, 5, 1, 0, 5, 2, 0, 0, 5, *STAY), 3),
    (2, (3, 0, 1, 5, 1, 0, 5, 2, 1, 1, 5, *STAY, 0, 7), 3), (3, (0, 1, 2, 0, 1, 1, 0, 1, 0, 0), 0),
    (4, (3, *(3, 3, 6, 5) * 3, *(1, 3, 99) * 4), 3), (4, (0, 0, 1, 0, 2, 0, 3, 0, 4), 0),
)

KEPT = (loop(2, 1, 0, 0, 50, 1, 0, 3, 1, 0, 1), values(-7, 20))


class Loop(unittest.TestCase):
    def test_whole_branches_answer_how_many_tests(self):
        for n, branch, tests in RIGHT_BRANCHES:
            with self.subTest(n=n, branch=branch):
                self.assertEqual(ask_last(loop(n, *branch)), [tests])

    def test_what_is_not_whole_is_refused(self):
        for n, branch in WRONG_BRANCHES:
            with self.subTest(n=n, branch=branch):
                self.assertEqual(ask_last(loop(n, *branch)), [-1])

    def test_n_out_of_1_to_4(self):
        for n in (0, -1, 5, 6, -HUGE, HUGE):
            for branch in ((), (0,), (0, *STAY), (0, *STAY * 5), (0, *STAY * 6)):
                with self.subTest(n=n, branch=branch):
                    self.assertEqual(ask_last(loop(n, *branch)), [-1])

    def test_a_branch_of_another_number_of_counters(self):
        for n in range(1, 5):
            for other in range(1, 5):
                with self.subTest(n=n, other=other):
                    answer = [0] if n == other else [-1]
                    self.assertEqual(ask_last(loop(n, 0, *STAY * other)), answer)

    def test_a_list_of_thirty_numbers(self):
        self.assertEqual(ask_last(loop(4, 0, *STAY * 9, 0, 0)), [-1])

    def test_a_refusal_changes_nothing(self):
        before = ask(*KEPT, rounds(), at(3))[2:]
        self.assertEqual(before, [[0, 20, 53, 51], [0, 2, 0]])
        for n, branch in WRONG_BRANCHES + ((0, (0,)), (5, (0, *STAY * 5))):
            with self.subTest(n=n, branch=branch):
                self.assertEqual(ask(*KEPT, loop(n, *branch), rounds(), at(3))[2:], [[-1]] + before)

    def test_all_values_are_0_again(self):
        self.assertEqual(ask_last(*KEPT, loop(2, 0, *STAY, 1, 1, 0), rounds()), [2, 0, 0, 0])
        self.assertEqual(ask_last(*KEPT, loop(2, 1, 0, 0, 50, 1, 0, 3, 1, 0, 1), at(0)), [0, 0, 0])

    def test_the_number_of_counters_changes(self):
        for n in range(1, 5):
            with self.subTest(n=n):
                self.assertEqual(ask_last(*KEPT, loop(n, 0, *STAY * n), rounds()), [2, 0] + [0] * n)

    def test_the_new_object(self):
        self.assertEqual(
            ask(rounds(), at(0), at(10 ** 12), values(5), rounds(), at(1), values(1, 2), first(0, 1, 5), times()),
            [[2, 0, 0], [0, 0], [0, 0], [0], [2, 0, 5], [0, 5], [-1], [-1], [-1]],
        )


class Values(unittest.TestCase):
    def test_the_values_at_the_beginning(self):
        for row in ((1000000,), (-1000000,), (0,), (1000000, -1000000), (1, 2, 3), (9, -9, 0, 1000000)):
            with self.subTest(row=row):
                n = len(row)
                self.assertEqual(ask(loop(n, 1, 0, 0, -999999, *STAY * n), values(*row), at(0))[1:], [[0], [0, *row]])

    def test_a_wrong_number_of_values(self):
        for n in range(1, 5):
            for size in range(7):
                if size == n:
                    continue
                with self.subTest(n=n, size=size):
                    begin = list(range(3, 3 + n))
                    calls = (loop(n, 0, *STAY * n), values(*begin), values(*[8] * size), at(0))
                    self.assertEqual(ask(*calls)[2:], [[-1], [0, *begin]])

    def test_a_value_too_far_out(self):
        for wrong in (1000001, -1000001, HUGE, -HUGE):
            for place in range(3):
                with self.subTest(wrong=wrong, place=place):
                    row = [7, 8, 9]
                    row[place] = wrong
                    calls = (loop(3, 0, *STAY * 3), values(4, 5, 6), values(*row), at(0))
                    self.assertEqual(ask(*calls)[2:], [[-1], [0, 4, 5, 6]])

    def test_later_values_count(self):
        calls = (loop(1, 1, 0, 0, 9, 1, 0, 1), values(0), rounds(), values(5), rounds(), rounds())
        self.assertEqual(ask(*calls)[2:], [[0, 10, 10], [0], [0, 5, 10], [0, 5, 10]])


if __name__ == "__main__":
    unittest.main()
