"""Which end it is where a value is beyond and the tests fail, in one round or in rounds close by.

Tests that are handed in have too small numbers for that: one that ever fails, fails long before any value is beyond. So
the rule is asked of the function that keeps it, with larger numbers.
"""

import unittest

try:
    from looprounds.ends import find_end
except ImportError:  # How the program is cut into modules is not promised.
    find_end = None

FAR = 10 ** 12
UP = [(0, 1)]
DOWN = [(0, -1)]
OVER, BEYOND, NEVER = 0, 1, 2


@unittest.skipIf(find_end is None, "the ends are not found by this function")
class Ends(unittest.TestCase):
    def test_both_after_the_same_round_is_beyond(self):
        self.assertEqual(find_end([(0, 0, FAR)], UP, [0]), (BEYOND, FAR + 1))
        self.assertEqual(find_end([(1, 0, -FAR)], DOWN, [0]), (BEYOND, FAR + 1))
        self.assertEqual(find_end([(1, 0, -5), (0, 0, FAR)], UP, [-5]), (BEYOND, FAR + 6))

    def test_tests_that_fail_a_round_before(self):
        self.assertEqual(find_end([(0, 0, FAR - 1)], UP, [0]), (OVER, FAR))
        self.assertEqual(find_end([(1, 0, 1 - FAR)], DOWN, [0]), (OVER, FAR))

    def test_tests_that_would_fail_a_round_later(self):
        self.assertEqual(find_end([(0, 0, FAR + 1)], UP, [0]), (BEYOND, FAR + 1))
        self.assertEqual(find_end([(1, 0, -FAR - 1)], DOWN, [0]), (BEYOND, FAR + 1))

    def test_tests_that_fail_after_0_rounds(self):
        self.assertEqual(find_end([(0, 0, -1)], UP, [0]), (OVER, 0))

    def test_neither(self):
        self.assertEqual(find_end([(0, 0, 0)], [(0, 0)], [0]), (NEVER, 0))


if __name__ == "__main__":
    unittest.main()
