"""What a loop's tests ask of a state.

A test is a tuple of just the numbers that it is handed in as: its kind, a counter, and what it is held against.
"""

AT_MOST = 0
AT_LEAST = 1
BELOW = 2
REMAINDER = 3


def excess(test, state):
    """How far the state is past the test: the test holds where this is 0 or less.

    But for remainders it grows evenly wherever the values do, so one division leaps over all the rounds between.
    """
    kind = test[0]
    value = state[test[1]]
    if kind == AT_MOST:
        return value - test[2]
    if kind == AT_LEAST:
        return test[2] - value
    if kind == BELOW:
        return value - state[test[2]] - test[3]
    return 0 if value % test[2] == test[3] else 1
