"""How a loop ends, and after how many rounds."""

from looprounds.checks import AT_LEAST, AT_MOST, excess
from looprounds.courses import Course, first_break, next_state

OVER = 0
BEYOND = 1
NEVER = 2

FARTHEST = 1000000000000


def bounds(counters):
    """Tests that all hold just where no value is beyond."""
    upper = [(AT_MOST, counter, FARTHEST) for counter in range(counters)]
    lower = [(AT_LEAST, counter, -FARTHEST) for counter in range(counters)]
    return upper + lower


def first_break_of_all(move, begin, tests):
    """The least number of rounds after which not all of the tests hold; None if they always do."""
    course = Course(move, begin, tests)
    breaks = [first_break(course, test) for test in tests]
    return min([rounds for rounds in breaks if rounds is not None], default=None)


def find_end(tests, move, begin):
    """How the loop ends, and after how many rounds (0, if never)."""
    over = first_break_of_all(move, begin, tests)
    beyond = first_break_of_all(move, begin, bounds(len(move)))
    if over is None and beyond is None:
        return (NEVER, 0)
    if beyond is None or (over is not None and over < beyond):
        return (OVER, over)
    return (BEYOND, beyond)


def all_hold(tests, state):
    return all([excess(test, state) <= 0 for test in tests])


def run_plainly(tests, move, begin, most):
    """How the loop ends, run round by round, at most so many; after how many rounds; the values then.

    If it has not ended by then, NEVER stands for how.
    """
    inside = bounds(len(move))
    state = list(begin)
    rounds = 0
    while rounds < most and all_hold(inside, state) and all_hold(tests, state):
        state = next_state(move, state)
        rounds += 1
    if not all_hold(inside, state):
        return (BEYOND, rounds, state)
    if not all_hold(tests, state):
        return (OVER, rounds, state)
    return (NEVER, rounds, state)
