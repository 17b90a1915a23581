"""Which end it is where a value is beyond and the tests fail, in one round or in rounds close by.

Tests that are handed in have too small numbers for that: one that ever fails, fails long before any value is beyond. So
the rule is asked of the functions that keep it, with larger numbers. Likewise no value is beyond within 2000 rounds.
"""

import unittest

try:
    from looprounds.ends import find_end, run_plainly
except ImportError:  # How the program is cut into modules is not promised.
    find_end = run_plainly = None

FAR = 10 ** 12
UP = [(0, 1)]
DOWN = [(0, -1)]
OVER, BEYOND, NEVER = 0, 1, 2


@unittest.skipIf(find_end is None, "the ends are not found by this function")
class Ends(unittest.TestCase):
    def test_both_after_the_same_round_is_beyond(self):
        self.assertEqual(find_end([(0, 0, FAR)], UP, [0]), (BEYOND, FAR + 1))
        self.assertEqual(find_end([(1, 0, -FAR)], DOWN, [0]), (BEYOND, FAR + 1))
        self.assertEqual(find_end([(1, 0, -5), (0, 0, FAR)], UP, [-5]), (BEYOND, FAR + 6))

    def test_tests_that_fail_a_round_before(self):
        self.assertEqual(find_end([(0, 0, FAR - 1)], UP, [0]), (OVER, FAR))
        self.assertEqual(find_end([(1, 0, 1 - FAR)], DOWN, [0]), (OVER, FAR))

    def test_tests_that_would_fail_a_round_later(self):
        self.assertEqual(find_end([(0, 0, FAR + 1)], UP, [0]), (BEYOND, FAR + 1))
        self.assertEqual(find_end([(1, 0, -FAR - 1)], DOWN, [0]), (BEYOND, FAR + 1))

    def test_tests_that_fail_after_0_rounds(self):
        self.assertEqual(find_end([(0, 0, -1)], UP, [0]), (OVER, 0))

    def test_neither(self):
        self.assertEqual(find_end([(0, 0, 0)], [(0, 0)], [0]), (NEVER, 0))


@unittest.skipIf(run_plainly is None, "what is run plainly isn't run by this function")
class Plain(unittest.TestCase):
    def test_beyond_within_so_many_rounds(self):
        self.assertEqual(run_plainly([], UP, [FAR - 5], 2000), (BEYOND, 6, [FAR + 1]))
        self.assertEqual(run_plainly([], DOWN, [5 - FAR], 2000), (BEYOND, 6, [-FAR - 1]))
        self.assertEqual(run_plainly([], UP, [FAR - 1999], 2000), (BEYOND, 2000, [FAR + 1]))
        self.assertEqual(run_plainly([], UP, [FAR - 2000], 2000), (NEVER, 2000, [FAR]))

    def test_both_after_the_same_round_is_beyond(self):
        self.assertEqual(run_plainly([(0, 0, FAR)], UP, [FAR - 5], 2000), (BEYOND, 6, [FAR + 1]))
        self.assertEqual(run_plainly([(0, 0, FAR - 1)], UP, [FAR - 5], 2000), (OVER, 5, [FAR]))
        self.assertEqual(run_plainly([(0, 0, FAR + 1)], UP, [FAR - 5], 2000), (BEYOND, 6, [FAR + 1]))

    def test_what_is_handed_in_is_not_changed(self):
        begin = [FAR - 5]
        run_plainly([], UP, begin, 2000)
        self.assertEqual(begin, [FAR - 5])


if __name__ == "__main__":
    unittest.main()
