"""The document's example."""

import unittest

from asking import ask, at, extremes, first, last, leap, loop, rounds, starts, times, told, values
from looprounds.leaps import answers


class Example(unittest.TestCase):
    def test_the_documents_line(self):
        self.assertEqual(
            ask(
                loop(2, 1, 1, 0, 10, 1, 0, -10, 1, 1, 1), values(1000000, 0), rounds(), at(7), first(0, 0, 500),
                last(3, 0, 4, 2), times(3, 0, 4, 2), extremes(0), starts(0, -1, 5), leap(), told(),
                loop(1, 0, 1, 0, 99), rounds(),
            ),
            [
                [1], [0], [0, 100000, 0, 100000], [0, 999930, 7], [1, 99950], [1, 99999], [50000], [0, 1000000],
                [7, 0, 0, 0], [100000], [2, 1, 1, 0, 10, 1, 0, -10, 1, 1, 1, 0, 100000], [0],
                [1, 10101010102, 1000000000098],
            ],
        )

    def test_number_by_number(self):
        calls = [0, 2, 10, 1, 1, 0, 10, 1, 0, -10, 1, 1, 1, 1, 2, 1000000, 0, 2, 3, 7, 4, 3, 0, 0, 500]
        calls += [5, 4, 3, 0, 4, 2, 6, 4, 3, 0, 4, 2, 7, 0, 8, 0, -1, 5, 11, 10, 2, 9, 12]
        calls += [0, 1, 4, 0, 1, 0, 99, 2, 3, -1, 10, -1]
        given = [1, 1, 1, 0, 4, 0, 100000, 0, 100000, 3, 0, 999930, 7, 2, 1, 99950, 2, 1, 99999, 1, 50000]
        given += [2, 0, 1000000, 4, 7, 0, 0, 0, 4, 2, 2000, 980000, 2000, 3, 0, 999980, 2, 1, 99998]
        given += [13, 2, 1, 1, 0, 10, 1, 0, -10, 1, 1, 1, 0, 100000]
        given += [1, 0, 3, 1, 10101010102, 1000000000098, 1, -3, 1, -3]
        self.assertEqual(answers(calls), given)


if __name__ == "__main__":
    unittest.main()
