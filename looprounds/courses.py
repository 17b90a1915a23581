"""The course of a move: its states from one beginning on, as if nothing ever ended it.

Each counter draws its value from another one, that one from another, and so on: either from a ring of counters, or
from a number. So, after as many rounds as there are counters, a counter drawn from a ring gains the ring's sum in as
many rounds as the ring is long, and one drawn from a number stays. Some rounds together, the stride, are whole turns of
all rings: from there on each stride changes every value by the same amount, and the states of one stride tell all.
"""

from looprounds.checks import REMAINDER, excess


def next_state(move, state):
    return [number if source is None else state[source] + number for source, number in move]


def common_multiple(one, other):
    found = one
    while found % other != 0:
        found += one
    return found


def ring_length(move, counter):
    """How long the ring is that the counter draws from; 1 if it draws from a number."""
    place = counter
    for gone in range(len(move)):
        place = move[place][0]
        if place is None:
            return 1
    length = 1
    behind = move[place][0]
    while behind != place:
        behind = move[behind][0]
        length += 1
    return length


def stride_of(move, tests):
    """A stride after which every ring is turned whole, and every value leaves the same remainders for the tests."""
    turn = 1
    for counter in range(len(move)):
        turn = common_multiple(turn, ring_length(move, counter))
    divisor = 1
    for test in tests:
        if test[0] == REMAINDER:
            divisor = common_multiple(divisor, test[2])
    return turn * divisor


class Course:
    """The states up to one stride behind the lead, which is the rounds after which the changes are even."""

    def __init__(self, move, begin, tests):
        self.lead = len(move)
        self.stride = stride_of(move, tests)
        states = [list(begin)]
        for gone in range(self.lead + self.stride):
            states.append(next_state(move, states[-1]))
        self.states = states

    def slope(self, test):
        """By how much each stride behind the lead changes the test's excess."""
        return excess(test, self.states[self.lead + self.stride]) - excess(test, self.states[self.lead])

    def state_after(self, rounds):
        if rounds < self.lead:
            return list(self.states[rounds])
        behind = rounds - self.lead
        strides = behind // self.stride
        near = self.states[self.lead + behind % self.stride]
        early = self.states[self.lead]
        late = self.states[self.lead + self.stride]
        return [near[k] + strides * (late[k] - early[k]) for k in range(len(near))]


def strides_to_break(over, slope):
    """After how many strides an excess, now over, is first above 0; None if it never is."""
    if over > 0:
        return 0
    if slope > 0:
        return -over // slope + 1
    return None


def first_break(course, test):
    """The least number of rounds after which the test does not hold; None if it always does."""
    found = None
    slope = course.slope(test)
    for start in range(course.lead + course.stride):
        even = slope if start >= course.lead else 0
        strides = strides_to_break(excess(test, course.states[start]), even)
        if strides is not None:
            rounds = start + strides * course.stride
            found = rounds if found is None else min(found, rounds)
    return found


def spans_held(course, test, final):
    """Where the test holds up to the final round: spans of a first round, a last round, and how many rounds.

    The rounds of a span are a stride apart. Without a final round (None) nothing ever changes from stride to stride,
    so the first stride alone is told.
    """
    found = []
    slope = course.slope(test)
    for start in range(course.lead + course.stride):
        if final is not None and start > final:
            break
        most = 0
        if final is not None and start >= course.lead:
            most = (final - start) // course.stride
        span = strides_held(excess(test, course.states[start]), slope, most)
        if span[0] <= span[1]:
            found.append((start + span[0] * course.stride, start + span[1] * course.stride, span[1] - span[0] + 1))
    return found


def strides_held(over, slope, most):
    """The least and the greatest number of strides, from 0 to most, after which an excess, now over, is 0 or less.

    Where there is none, the least is above the greatest.
    """
    if slope > 0:
        return (0, min(most, -over // slope))
    if slope < 0:
        return (max(0, -(-over // -slope)), most)
    return (0, most if over <= 0 else -1)


def extremes_of(course, counter, final):
    """The counter's least and greatest value up to the final round (None: as in spans_held).

    What changes evenly is least and greatest where it begins and where it ends: in the first stride and in the last.
    """
    known = course.lead + course.stride
    places = list(range(known))
    if final is not None:
        places = list(range(min(known, final + 1))) + list(range(max(0, final - course.stride + 1), final + 1))
    found = [course.state_after(rounds)[counter] for rounds in places]
    return [min(found), max(found)]
