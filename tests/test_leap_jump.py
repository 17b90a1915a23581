"""Points 2 and 3: leap and jump, and the values that are held from then on."""

import unittest

from asking import ask, ask_last, at, first, jump, last, leap, loop, rounds, starts, times, told, values

FAR = 10 ** 12
HUGE = 10 ** 18
MOST = 1000000
STAY = (1, 0, 0)
UP = (1, 0, 1)

TENS_BRANCH = (1, 1, 0, 10, 1, 0, -10, 1, 1, 1)
TENS = (loop(2, *TENS_BRANCH), values(45, 0))
RING = (1, 3, 1, 1, 0, 0, 1, 1, 0, 1, 2, 0)

# Counters 0 and 1 change places, 99 less and 99 more; counter 2 counts the rounds. After an odd number of rounds
# counter 1 is 1000089, after an even number the two are as at the beginning.
SWING_MOVE = (1, 1, -99, 1, 0, 99, 1, 2, 1)


def swing(most):
    return (loop(3, 1, 0, 2, most - 1, *SWING_MOVE), values(999990, 0, 0))


class Leap(unittest.TestCase):
    def test_the_values_then_are_held(self):
        self.assertEqual(
            ask(*TENS, leap(), told(), rounds(), at(0), at(1), leap(), told())[2:],
            [[4], [2, *TENS_BRANCH, 5, 4], [0, 0, 5, 4], [0, 5, 4], [-3], [0], [2, *TENS_BRANCH, 5, 4]])

    def test_after_0_rounds(self):
        for begin in ((9, 1), (-MOST, MOST), (0, 0)):
            with self.subTest(begin=begin):
                self.assertEqual(ask(*TENS, values(*begin), leap(), told())[3:], [[0], [2, *TENS_BRANCH, *begin]])

    def test_very_many_rounds(self):
        self.assertEqual(
            ask(loop(4, 1, 0, 3, 999999, *RING), values(*[-MOST] * 4), leap(), at(0), leap())[2:],
            [[8000000], [0, MOST, MOST, MOST, MOST], [0]])

    def test_where_it_is_beyond(self):
        for calls, kept in (
            ((loop(1, 0, 1, 0, 99), values(7)), [1, 0, 1, 0, 99, 7]),
            ((loop(1, 0, 1, 0, -1), values(-3)), [1, 0, 1, 0, -1, -3]),
            ((loop(1, 1, 1, 0, 0, 1, 0, 1), values(0)), [1, 1, 1, 0, 0, 1, 0, 1, 0]),
            ((loop(2, 1, 3, 1, 4, 3, 1, 0, 1, 1, 1, 0), values(1, -1)), [2, 1, 3, 1, 4, 3, 1, 0, 1, 1, 1, 0, 1, -1]),
        ):
            with self.subTest(calls=calls):
                self.assertEqual(ask(*calls, leap(), told(), leap())[2:], [[-4], kept, [-4]])

    def test_where_it_never_ends(self):
        for calls, kept in (
            ((loop(1, 0, *STAY), values(7)), [1, 0, 1, 0, 0, 7]),
            ((loop(2, 0, 1, 1, 5, 1, 0, -5), values(3, 4)), [2, 0, 1, 1, 5, 1, 0, -5, 3, 4]),
            ((loop(1, 1, 0, 0, 5, 0, 5), values(-MOST)), [1, 1, 0, 0, 5, 0, 5, -MOST]),
        ):
            with self.subTest(calls=calls):
                self.assertEqual(ask(*calls, leap(), told())[2:], [[-4], kept])
        self.assertEqual(ask(leap(), told()), [[-4], [1, 0, 1, 0, 0, 0]])

    def test_how_far_out_the_values_then_may_be(self):
        for branch, begin, answer, then in (
            ((1, 0, 0, 999999, 1, 0, 1), 0, [MOST], MOST),
            ((1, 0, 0, 999999, 1, 0, 2), 0, [MOST // 2], MOST),
            ((1, 0, 0, 999999, 1, 0, 2), 1, [-4], 1),
            ((1, 0, 0, 999999, 1, 0, 99), 999999, [-4], 999999),
            ((1, 1, 0, -999999, 1, 0, -1), 0, [MOST], -MOST),
            ((1, 1, 0, -999999, 1, 0, -2), 0, [MOST // 2], -MOST),
            ((1, 1, 0, -999999, 1, 0, -2), -1, [-4], -1),
            ((1, 1, 0, -999999, 1, 0, -99), -999999, [-4], -999999),
        ):
            with self.subTest(branch=branch, begin=begin):
                self.assertEqual(
                    ask(loop(1, *branch), values(begin), leap(), told())[2:], [answer, [1, *branch, then]])

    def test_any_value_may_be_too_far_out(self):
        for place in range(3):
            for sign in (1, -1):
                for near, answer in ((990, [10]), (989, [-4]), (0, [-4])):
                    with self.subTest(place=place, sign=sign, near=near):
                        move = [(1, counter, 0) for counter in range(3)] + [(1, 3, 1)]
                        move[place] = (1, place, 99 * sign)
                        begin = [5, 6, 7, 0]
                        begin[place] = sign * (MOST - near)
                        then = begin[:3] + [10]
                        then[place] = sign * MOST
                        calls = (loop(4, 1, 0, 3, 9, *[number for gift in move for number in gift]), values(*begin))
                        self.assertEqual(
                            ask(*calls, leap(), at(0))[2:], [answer, [0, *(begin if answer == [-4] else then)]])

    def test_values_on_the_way_may_be_further_out(self):
        self.assertEqual(ask(*swing(2), leap(), at(0))[2:], [[2], [0, 999990, 0, 2]])
        self.assertEqual(ask(*swing(3), leap(), at(0))[2:], [[-4], [0, 999990, 0, 0]])
        self.assertEqual(ask(*swing(4), leap(), at(0))[2:], [[4], [0, 999990, 0, 4]])

    def test_the_next_calls_go_on_from_there(self):
        self.assertEqual(
            ask(*TENS, leap(), first(0, 0, 5), last(1, 0, 6), times(1, 0, 0), starts(1, 0, 3), values(20, 9), leap(),
                told())[3:],
            [[1, 0], [0], [1], [4, 0, 0, 0], [0], [2], [2, *TENS_BRANCH, 0, 11]])


class JumpRefused(unittest.TestCase):
    def test_n_too_small_or_too_large(self):
        for calls in (TENS, (loop(1, 0, *STAY),), (loop(1, 0, 1, 0, 1),), (loop(4, 0, *RING),), (values(7),)):
            for n in (-1, -2, -FAR, -HUGE, FAR + 1, 2 * FAR, HUGE):
                with self.subTest(calls=calls, n=n):
                    before = ask_last(*calls, told())
                    self.assertEqual(ask(*calls, jump(n), told())[len(calls):], [[-3], before])

    def test_no_further_than_the_end(self):
        for n in (5, 6, 1000, FAR):
            with self.subTest(n=n):
                self.assertEqual(ask(*TENS, jump(n), told())[2:], [[-3], [2, *TENS_BRANCH, 45, 0]])
        self.assertEqual(ask(*TENS, values(9, 1), jump(1), jump(0))[3:], [[-3], [0, 9, 1]])

    def test_further_than_the_end_comes_before_too_far_out(self):
        end = 10101010102
        self.assertEqual(
            ask(loop(1, 0, 1, 0, 99), jump(end + 1), jump(FAR), jump(end), jump(end - 1), jump(10102), jump(10101))[1:],
            [[-3], [-3], [-4], [-4], [-4], [0, 999999]])

    def test_the_greatest_n_may_lead_too_far_out(self):
        self.assertEqual(
            ask(loop(4, 0, *RING), jump(FAR), jump(FAR + 1), jump(4000000), at(0))[1:],
            [[-4], [-3], [0, MOST, MOST, MOST, MOST], [0, MOST, MOST, MOST, MOST]])
        self.assertEqual(
            ask(loop(4, 0, *RING), jump(4000001), told())[1:], [[-4], [4, 0, *RING, 0, 0, 0, 0]])

    def test_how_far_out_the_values_then_may_be(self):
        for number, begin, n, answer in (
            (1, 0, MOST, [0, MOST]), (1, 0, MOST + 1, [-4]), (-1, 0, MOST, [0, -MOST]), (-1, 0, MOST + 1, [-4]),
            (1, -MOST, 2 * MOST, [0, MOST]), (1, -MOST, 2 * MOST + 1, [-4]), (99, MOST, 1, [-4]),
            (-99, -MOST, 1, [-4]), (-99, MOST, 20202, [0, MOST - 99 * 20202]), (-99, MOST, 20203, [-4]),
        ):
            with self.subTest(number=number, begin=begin, n=n):
                then = begin if answer == [-4] else answer[1]
                self.assertEqual(
                    ask(loop(1, 0, 1, 0, number), values(begin), jump(n), told())[2:],
                    [answer, [1, 0, 1, 0, number, then]])

    def test_any_value_may_be_too_far_out(self):
        for place in range(4):
            for sign in (1, -1):
                with self.subTest(place=place, sign=sign):
                    move = [(1, counter, 0) for counter in range(4)]
                    move[place] = (1, place, sign)
                    calls = (loop(4, 0, *[number for gift in move for number in gift]), jump(MOST), jump(1), at(0))
                    then = [sign * MOST if counter == place else 0 for counter in range(4)]
                    self.assertEqual(ask(*calls)[1:], [[0, *then], [-4], [0, *then]])

    def test_values_on_the_way_may_be_further_out(self):
        self.assertEqual(
            ask(*swing(9), jump(1), jump(3), jump(2), jump(1), jump(6), jump(1), at(0))[2:],
            [[-4], [-4], [0, 999990, 0, 2], [-4], [0, 999990, 0, 8], [-4], [0, 999990, 0, 8]])


class Jump(unittest.TestCase):
    def test_0_rounds(self):
        self.assertEqual(ask(jump(0), told()), [[0, 0], [1, 0, 1, 0, 0, 0]])
        self.assertEqual(ask(*TENS, jump(0), told())[2:], [[0, 45, 0], [2, *TENS_BRANCH, 45, 0]])
        self.assertEqual(ask(loop(1, 0, *UP), values(-MOST), jump(0))[2:], [[0, -MOST]])

    def test_the_values_then_are_held(self):
        self.assertEqual(
            ask(*TENS, jump(1), told(), rounds(), jump(2), rounds(), at(2), jump(2), at(1), jump(1), told())[2:],
            [[0, 35, 1], [2, *TENS_BRANCH, 35, 1], [0, 3, 5, 4], [0, 15, 3], [0, 1, 5, 4], [-3], [-3], [0, 5, 4],
             [0, 5, 4], [2, *TENS_BRANCH, 5, 4]])

    def test_up_to_the_end(self):
        self.assertEqual(
            ask(*TENS, jump(4), rounds(), jump(1), leap(), jump(0))[2:],
            [[0, 5, 4], [0, 0, 5, 4], [-3], [0], [0, 5, 4]])

    def test_where_it_never_ends(self):
        turn = loop(3, 0, 1, 2, 1, 1, 0, 10, 1, 1, -11)
        self.assertEqual(
            ask(turn, values(1, 2, 3), jump(FAR), jump(FAR), jump(FAR), jump(1), rounds(), leap())[2:],
            [[0, 4, 11, -9], [0, -8, 14, 0], [0, 1, 2, 3], [0, 4, 11, -9], [2, 0, 4, 11, -9], [-4]])

    def test_where_it_ends_beyond(self):
        self.assertEqual(
            ask(loop(1, 0, 1, 0, 99), jump(102), rounds(), jump(1), at(3))[1:],
            [[0, 10098], [1, 10101010000, 1000000000098], [0, 10197], [0, 10494]])

    def test_numbers_given(self):
        self.assertEqual(
            ask(loop(2, 0, 0, 5, 1, 0, 7), values(3, 4), jump(1), jump(1), jump(FAR))[2:],
            [[0, 5, 10], [0, 5, 12], [0, 5, 12]])

    def test_the_next_calls_go_on_from_there(self):
        self.assertEqual(
            ask(*TENS, jump(2), first(0, 0, 20), last(1, 0, 6), times(1, 0, 0), starts(1, 0, 3), leap(), told())[2:],
            [[0, 25, 2], [1, 1], [1, 1], [3], [4, 0, 0, 0], [2], [2, *TENS_BRANCH, 5, 4]])

    def test_values_and_loop_take_their_place(self):
        self.assertEqual(ask(*TENS, jump(2), values(99, 1), at(0))[3:], [[0], [0, 99, 1]])
        self.assertEqual(ask(*TENS, jump(2), loop(3, 0, *STAY * 3), at(0))[3:], [[0], [0, 0, 0, 0]])


if __name__ == "__main__":
    unittest.main()
