"""What is handed in isn't changed, nothing is kept, and the calls of a line are on one object."""

import unittest

from asking import ask, at, extremes, first, jump, last, leap, loop, plain, rounds, starts, times, told, values
from looprounds.leaps import answers

LINE = (
    loop(2, 1, 1, 0, 10, 1, 0, -10, 1, 1, 1), values(1000000, 0), rounds(), at(7), at(10 ** 18), first(0, 0, 500),
    last(3, 0, 4, 2), times(3, 0, 4, 2), times(3, 0, 5, 2), loop(5, 0), values(0), rounds(),
    extremes(1), starts(0, 3, 30), jump(7), plain(), leap(), told(), leap(), jump(1),
)


class OnlyReads(list):
    """A list that may be read alone."""

    def refuse(self, *given, **named):
        raise AssertionError("what was handed in is changed")

    append = extend = insert = pop = remove = reverse = sort = clear = refuse
    __setitem__ = __delitem__ = __iadd__ = __imul__ = refuse


class Kept(unittest.TestCase):
    def setUp(self):
        self.calls = [number for call in LINE for number in call]

    def test_what_is_handed_in_is_not_changed(self):
        before = list(self.calls)
        answers(self.calls)
        self.assertEqual(self.calls, before)

    def test_not_for_a_while_either(self):
        self.assertEqual(answers(OnlyReads(self.calls)), answers(self.calls))

    def test_the_answer_is_another_list_each_time(self):
        one = answers(self.calls)
        before = list(one)
        other = answers(self.calls)
        self.assertIsNot(one, other)
        one.clear()
        self.assertEqual(other, before)
        self.assertEqual(answers(self.calls), before)

    def test_nothing_is_kept_from_one_time_to_the_next(self):
        for number in range(3):
            self.assertEqual(answers(rounds()), [3, 2, 0, 0])
            answers(self.calls)
            answers(values(5))
            self.assertEqual(answers(at(3)), [2, 0, 0])
            answers(loop(3, 0, 0, 1, 0, 2, 0, 3))
            self.assertEqual(answers(told()), [6, 1, 0, 1, 0, 0, 0])
            answers(values(5) + jump(9))
            self.assertEqual(answers(jump(3)), [2, 0, 0])
            answers(values(7) + loop(1, 1, 0, 0, 5, 1, 0, 1) + leap())
            self.assertEqual(answers(extremes(0)), [2, 0, 0])

    def test_values_told_are_not_the_ones_held(self):
        line = (loop(1, 1, 0, 0, 9, 1, 0, 1), values(3), jump(2), told(), jump(2), told(), leap(), told())
        self.assertEqual(
            ask(*line)[2:],
            [[0, 5], [1, 1, 0, 0, 9, 1, 0, 1, 5], [0, 7], [1, 1, 0, 0, 9, 1, 0, 1, 7], [3],
             [1, 1, 0, 0, 9, 1, 0, 1, 10]])

    def test_questions_change_nothing(self):
        start = (loop(2, 1, 0, 0, 9, 1, 0, 1, 1, 0, 0), values(2, 7))
        asking = (
            rounds(), at(4), at(99), first(1, 0, 5), last(1, 0, 5), times(1, 0, 5), first(), last(), times(),
            extremes(0), extremes(1), extremes(2), starts(0, 1, 9), starts(1, 4, 4), starts(2, 0, 0), starts(0, 1, 0),
            starts(0, 0, 60), plain(), told(), jump(99), jump(-1), jump(0),
        )
        alone = [ask(*start, question)[-1] for question in asking]
        for question in asking:
            for place, other in enumerate(asking):
                with self.subTest(question=question, other=other):
                    self.assertEqual(ask(*start, question, other)[-1], alone[place])

    def test_a_line_of_one_call_and_of_twenty(self):
        self.assertEqual(ask(rounds()), [[2, 0, 0]])
        self.assertEqual(ask(*[times(0, 0, 0)] * 20), [[-7]] * 20)
        self.assertEqual(ask(*[leap()] * 20), [[-4]] * 20)
        self.assertEqual(ask(loop(1, 0, 1, 0, 1), *[jump(2)] * 19)[1:], [[0, 2 * n] for n in range(1, 20)])


if __name__ == "__main__":
    unittest.main()
