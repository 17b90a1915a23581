"""The calls on one loop, and their answers."""

from looprounds.courses import Course, extremes_of, spans_held
from looprounds.ends import BEYOND, NEVER, OVER, find_end, run_plainly
from looprounds.refusals import NeverEnds, NoSuchCounter, NoSuchRound, NotHeld, NotWhole, TooMany
from looprounds.rows import Row
from looprounds.shapes import MOST_VALUE, branch_numbers, may_begin, whole_branch, whole_test, whole_values

MOST_ROUNDS = 1000000000000
MOST_BEGINNINGS = 60
MOST_PLAIN = 2000


class Machine:
    """The loop, and the values at its beginning."""

    def __init__(self):
        self.tests = []
        self.move = [(0, 0)]
        self.begin = [0]

    def ending(self):
        return find_end(self.tests, self.move, self.begin)

    def final_round(self):
        """The rounds after which it ends; None if it never does."""
        ending = self.ending()
        return None if ending[0] == NEVER else ending[1]

    def state_after(self, rounds):
        return Course(self.move, self.begin, []).state_after(rounds)

    def spans(self, test, final):
        return spans_held(Course(self.move, self.begin, [test]), test, final)

    def way_from(self, counter, value):
        """How the loop ends, if this counter had this value at the beginning."""
        begin = list(self.begin)
        begin[counter] = value
        return find_end(self.tests, self.move, begin)[0]

    def begin_with(self, state):
        if not may_begin(state):
            raise NotHeld()
        self.begin = state


def call_loop(machine, feed):
    counters = feed.number()
    branch = whole_branch(feed.part(), counters)
    machine.tests = branch[0]
    machine.move = branch[1]
    machine.begin = [0 for counter in range(counters)]
    return [len(machine.tests)]


def call_values(machine, feed):
    machine.begin = whole_values(feed.part(), len(machine.move))
    return [0]


def call_rounds(machine, feed):
    ending = machine.ending()
    return [ending[0], ending[1]] + machine.state_after(ending[1])


def asked_state(machine, feed):
    rounds = feed.number()
    if rounds < 0 or rounds > MOST_ROUNDS:
        raise NoSuchRound()
    final = machine.final_round()
    if final is not None and rounds > final:
        raise NoSuchRound()
    return machine.state_after(rounds)


def call_at(machine, feed):
    return [0] + asked_state(machine, feed)


def call_first(machine, feed):
    test = whole_test(feed.part(), len(machine.move))
    spans = machine.spans(test, machine.final_round())
    if not spans:
        return [0]
    return [1, min([span[0] for span in spans])]


def spans_up_to_end(machine, feed):
    test = whole_test(feed.part(), len(machine.move))
    final = machine.final_round()
    if final is None:
        raise NeverEnds()
    return machine.spans(test, final)


def call_last(machine, feed):
    spans = spans_up_to_end(machine, feed)
    if not spans:
        return [0]
    return [1, max([span[1] for span in spans])]


def call_times(machine, feed):
    return [sum([span[2] for span in spans_up_to_end(machine, feed)])]


def refuse_no_counter(machine, counter):
    if counter < 0 or counter >= len(machine.move):
        raise NoSuchCounter()


def call_extremes(machine, feed):
    counter = feed.number()
    refuse_no_counter(machine, counter)
    return extremes_of(Course(machine.move, machine.begin, []), counter, machine.final_round())


def call_starts(machine, feed):
    counter = feed.number()
    low = feed.number()
    high = feed.number()
    refuse_no_counter(machine, counter)
    if low < -MOST_VALUE or high > MOST_VALUE or high < low:
        raise NotWhole()
    if high - low + 1 > MOST_BEGINNINGS:
        raise TooMany()
    ways = [machine.way_from(counter, value) for value in range(low, high + 1)]
    return [ways.count(OVER), ways.count(BEYOND), ways.count(NEVER)] + first_not_over(ways, low)


def first_not_over(ways, low):
    for place, way in enumerate(ways):
        if way != OVER:
            return [1, low + place]
    return [0]


def call_leap(machine, feed):
    ending = machine.ending()
    if ending[0] != OVER:
        raise NotHeld()
    machine.begin_with(machine.state_after(ending[1]))
    return [ending[1]]


def call_jump(machine, feed):
    machine.begin_with(asked_state(machine, feed))
    return [0] + machine.begin


def call_plain(machine, feed):
    run = run_plainly(machine.tests, machine.move, machine.begin, MOST_PLAIN)
    return [run[0], run[1]] + run[2]


def call_told(machine, feed):
    return [len(machine.move)] + branch_numbers(machine.tests, machine.move) + machine.begin


# A call's number is its place here.
CALLS = (
    call_loop, call_values, call_rounds, call_at, call_first, call_last, call_times,
    call_extremes, call_starts, call_leap, call_jump, call_plain, call_told,
)


def answer_call(machine, feed):
    call = CALLS[feed.number()]
    try:
        return call(machine, feed)
    except NotWhole:
        return [-1]
    except NoSuchCounter:
        return [-2]
    except NoSuchRound:
        return [-3]
    except NotHeld:
        return [-4]
    except TooMany:
        return [-6]
    except NeverEnds:
        return [-7]


def answers(calls):
    """The answers to the calls on one new object, each with how many numbers it has ahead of it."""
    machine = Machine()
    feed = Row(calls)
    given = []
    while feed.more():
        answer = answer_call(machine, feed)
        given.append(len(answer))
        given.extend(answer)
    return given
