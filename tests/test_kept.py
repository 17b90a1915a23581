"""What is handed in isn't changed, nothing is kept, and the calls of a line are on one object."""

import unittest

from asking import ask, at, first, last, loop, rounds, times, values
from looprounds.leaps import answers

LINE = (
    loop(2, 1, 1, 0, 10, 1, 0, -10, 1, 1, 1), values(1000000, 0), rounds(), at(7), at(10 ** 18), first(0, 0, 500),
    last(3, 0, 4, 2), times(3, 0, 4, 2), times(3, 0, 5, 2), loop(5, 0), values(0), rounds(),
)


class OnlyReads(list):
    """A list that may be read alone."""

    def refuse(self, *given, **named):
        raise AssertionError("what was handed in is changed")

    append = extend = insert = pop = remove = reverse = sort = clear = refuse
    __setitem__ = __delitem__ = __iadd__ = __imul__ = refuse


class Kept(unittest.TestCase):
    def setUp(self):
        self.calls = [number for call in LINE for number in call]

    def test_what_is_handed_in_is_not_changed(self):
        before = list(self.calls)
        answers(self.calls)
        self.assertEqual(self.calls, before)

    def test_not_for_a_while_either(self):
        self.assertEqual(answers(OnlyReads(self.calls)), answers(self.calls))

    def test_the_answer_is_another_list_each_time(self):
        one = answers(self.calls)
        before = list(one)
        other = answers(self.calls)
        self.assertIsNot(one, other)
        one.clear()
        self.assertEqual(other, before)
        self.assertEqual(answers(self.calls), before)

    def test_nothing_is_kept_from_one_time_to_the_next(self):
        for number in range(3):
            self.assertEqual(answers(rounds()), [3, 2, 0, 0])
            answers(self.calls)
            answers(values(5))
            self.assertEqual(answers(at(3)), [2, 0, 0])
            answers(loop(3, 0, 0, 1, 0, 2, 0, 3))

    def test_questions_change_nothing(self):
        start = (loop(2, 1, 0, 0, 9, 1, 0, 1, 1, 0, 0), values(2, 7))
        asking = (rounds(), at(4), at(99), first(1, 0, 5), last(1, 0, 5), times(1, 0, 5), first(), last(), times())
        plain = [ask(*start, question)[-1] for question in asking]
        self.assertEqual(ask(*start, *asking, *asking)[2:], plain + plain)

    def test_a_line_of_one_call_and_of_twenty(self):
        self.assertEqual(ask(rounds()), [[2, 0, 0]])
        self.assertEqual(ask(*[times(0, 0, 0)] * 20), [[-7]] * 20)


if __name__ == "__main__":
    unittest.main()
