"""Point 2: starts."""

import unittest

from asking import ask, ask_last, loop, starts, told, values

FAR = 10 ** 12
HUGE = 10 ** 18
MOST = 1000000
STAY = (1, 0, 0)

# Over for odd values, beyond for even ones.
EVEN_UP = loop(1, 1, 3, 0, 2, 0, 1, 0, 2)
# Never, where counter 0 is at most counter 1; over else.
BELOW = (loop(2, 1, 2, 0, 1, 0, 1, 0, 0, 1, 1, 0), values(0, 5))

NO_COUNTERS = (2, 3, 4, -1, -2, FAR, HUGE, -HUGE)
WRONG_BOUNDS = (
    (-MOST - 1, -MOST), (-MOST - 1, -MOST - 1), (MOST, MOST + 1), (MOST + 1, MOST + 1), (1, 0), (0, -1), (59, -1),
    (MOST, -MOST), (-MOST - 1, MOST), (-MOST, MOST + 1), (-HUGE, HUGE), (HUGE, -HUGE), (-HUGE, 0), (0, HUGE),
    (-HUGE, -HUGE), (HUGE, HUGE), (-MOST - 1, -MOST + 80),
)
TOO_WIDE = ((0, 60), (1, 61), (-30, 30), (-MOST, -MOST + 60), (MOST - 60, MOST), (-MOST, MOST), (0, 1000))


class Refusals(unittest.TestCase):
    def test_no_such_counter_comes_first(self):
        for counter in NO_COUNTERS:
            for lo, hi in ((0, 5),) + WRONG_BOUNDS + TOO_WIDE:
                with self.subTest(counter=counter, lo=lo, hi=hi):
                    self.assertEqual(ask_last(*BELOW, starts(counter, lo, hi)), [-2])

    def test_then_wrong_bounds(self):
        for counter in (0, 1):
            for lo, hi in WRONG_BOUNDS:
                with self.subTest(counter=counter, lo=lo, hi=hi):
                    self.assertEqual(ask_last(*BELOW, starts(counter, lo, hi)), [-1])

    def test_then_too_many(self):
        for counter in (0, 1):
            for lo, hi in TOO_WIDE:
                with self.subTest(counter=counter, lo=lo, hi=hi):
                    self.assertEqual(ask_last(*BELOW, starts(counter, lo, hi)), [-6])

    def test_sixty_are_not_too_many(self):
        for lo in (-MOST, -60, -59, -30, 0, 1, MOST - 59):
            with self.subTest(lo=lo):
                self.assertEqual(ask_last(EVEN_UP, starts(0, lo, lo + 59)), [30, 30, 0, 1, lo + lo % 2])
                self.assertEqual(ask_last(EVEN_UP, starts(0, lo - 1, lo + 59)), [-1 if lo == -MOST else -6])
                self.assertEqual(ask_last(EVEN_UP, starts(0, lo, lo + 60)), [-1 if lo == MOST - 59 else -6])
        self.assertEqual(ask(starts(0, 0, 59), starts(0, 0, 60)), [[0, 0, 60, 1, 0], [-6]])

    def test_counters_of_this_loop(self):
        for n in range(1, 5):
            for counter in range(-1, 6):
                with self.subTest(n=n, counter=counter):
                    calls = (loop(4, 0, *STAY * 4), loop(n, 0, *STAY * n), starts(counter, 3, 4))
                    self.assertEqual(ask_last(*calls), [0, 0, 2, 1, 3] if 0 <= counter < n else [-2])

    def test_a_refusal_is_followed_by_the_next_call(self):
        self.assertEqual(
            ask(starts(7, 0, 1), starts(0, 1, 0), starts(0, 0, 99), starts(0, 4, 4)),
            [[-2], [-1], [-6], [0, 0, 1, 1, 4]])


class Counts(unittest.TestCase):
    def test_over_and_beyond(self):
        self.assertEqual(ask_last(EVEN_UP, starts(0, -3, 4)), [4, 4, 0, 1, -2])
        self.assertEqual(ask_last(EVEN_UP, starts(0, -3, -3)), [1, 0, 0, 0])
        self.assertEqual(ask_last(EVEN_UP, starts(0, -2, -2)), [0, 1, 0, 1, -2])
        self.assertEqual(ask_last(EVEN_UP, starts(0, 0, 0)), [0, 1, 0, 1, 0])
        self.assertEqual(ask_last(EVEN_UP, starts(0, MOST, MOST)), [0, 1, 0, 1, MOST])
        self.assertEqual(ask_last(EVEN_UP, starts(0, -MOST, -MOST + 1)), [1, 1, 0, 1, -MOST])

    def test_over_and_never(self):
        calls = (loop(1, 1, 3, 0, 3, 1, *STAY),)
        self.assertEqual(ask_last(*calls, starts(0, 0, 8)), [6, 0, 3, 1, 1])
        self.assertEqual(ask_last(*calls, starts(0, -4, 0)), [4, 0, 1, 1, -2])
        self.assertEqual(ask_last(*calls, starts(0, -5, 0)), [4, 0, 2, 1, -5])
        self.assertEqual(ask_last(*calls, starts(0, -1, 0)), [2, 0, 0, 0])

    def test_the_least_one_that_is_not_over(self):
        for tests, answer in (
            ((1, 0, 0, 4), [5, 0, 15, 1, -10]), ((1, 1, 0, 4), [14, 0, 6, 1, 4]), ((1, 0, 0, -10), [19, 0, 1, 1, -10]),
            ((1, 0, 0, -11), [20, 0, 0, 0]), ((1, 1, 0, 9), [19, 0, 1, 1, 9]), ((1, 1, 0, 10), [20, 0, 0, 0]),
            ((2, 1, 0, -3, 0, 0, 2), [14, 0, 6, 1, -3]), ((0,), [0, 0, 20, 1, -10]),
        ):
            with self.subTest(tests=tests):
                self.assertEqual(ask_last(loop(1, *tests, *STAY), starts(0, -10, 9)), answer)

    def test_the_others_as_they_are(self):
        self.assertEqual(ask_last(*BELOW, starts(0, 3, 8)), [3, 0, 3, 1, 3])
        self.assertEqual(ask_last(*BELOW, starts(1, -2, 2)), [2, 0, 3, 1, 0])
        self.assertEqual(ask_last(*BELOW, values(-1, 7), starts(0, 3, 8)), [1, 0, 5, 1, 3])
        self.assertEqual(ask_last(*BELOW, values(-1, 7), starts(1, -2, 2)), [1, 0, 4, 1, -1])

    def test_a_counter_that_does_not_matter(self):
        calls = (loop(2, 1, 0, 0, 9, 1, 0, 1, 0, 4),)
        self.assertEqual(ask_last(*calls, starts(1, -5, 5)), [11, 0, 0, 0])
        calls = (loop(2, 1, 0, 0, 9, 1, 0, -1, 0, 4),)
        self.assertEqual(ask_last(*calls, starts(1, -5, 5)), [0, 11, 0, 1, -5])

    def test_a_counter_that_matters_later(self):
        # Counter 3 has, after 3 rounds, what counter 0 had at the beginning; then 5 for ever.
        calls = (loop(4, 1, 1, 3, 0, 0, 5, 1, 0, 0, 1, 1, 0, 1, 2, 0),)
        self.assertEqual(ask_last(*calls, starts(0, -3, 2)), [3, 0, 3, 1, 0])
        self.assertEqual(ask_last(*calls, starts(3, -1, 2)), [1, 0, 3, 1, 0])
        self.assertEqual(ask_last(*calls, values(0, 0, -1, 0), starts(0, -3, 2)), [6, 0, 0, 0])

    def test_gaps(self):
        # Both tests hold for -14 -2 10 22 alone, and go on holding.
        calls = (loop(1, 2, 3, 0, 4, 2, 3, 0, 6, 4, 1, 0, 12),)
        self.assertEqual(ask_last(*calls, starts(0, 0, 30)), [29, 2, 0, 1, 10])
        self.assertEqual(ask_last(*calls, starts(0, -14, 22)), [33, 4, 0, 1, -14])
        self.assertEqual(ask_last(*calls, starts(0, -13, 22)), [33, 3, 0, 1, -2])
        self.assertEqual(ask_last(*calls, starts(0, -1, 9)), [11, 0, 0, 0])

    def test_very_many_rounds_each(self):
        ring = (1, 3, 1, 1, 0, 0, 1, 1, 0, 1, 2, 0)
        self.assertEqual(
            ask(loop(4, 0, *ring), *[starts(counter % 4, -MOST, -MOST + 59) for counter in range(19)])[1:],
            [[0, 60, 0, 1, -MOST]] * 19)
        self.assertEqual(
            ask_last(loop(4, 1, 0, 0, 999999, *ring), starts(0, -MOST, -MOST + 59)), [60, 0, 0, 0])

    def test_the_value_held_does_not_count(self):
        calls = (loop(1, 1, 0, 0, 0, *STAY),)
        for value in (-MOST, 0, 5, MOST):
            with self.subTest(value=value):
                self.assertEqual(ask_last(*calls, values(value), starts(0, -1, 2)), [2, 0, 2, 1, -1])


class Unchanged(unittest.TestCase):
    def test_the_values_held_are_not_changed(self):
        self.assertEqual(
            ask(*BELOW, starts(0, 3, 8), starts(1, -9, 9), starts(2, 0, 0), starts(0, 1, 0), starts(1, 0, 60), told())[2:],
            [[3, 0, 3, 1, 3], [9, 0, 10, 1, 0], [-2], [-1], [-6], [2, 1, 2, 0, 1, 0, 1, 0, 0, 1, 1, 0, 0, 5]])


if __name__ == "__main__":
    unittest.main()
