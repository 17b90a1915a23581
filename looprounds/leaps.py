"""The calls on one loop, and their answers."""

from looprounds.courses import Course, spans_held
from looprounds.ends import FARTHEST, NEVER, find_end
from looprounds.refusals import NeverEnds, NoSuchRound, NotWhole
from looprounds.rows import Row
from looprounds.shapes import whole_branch, whole_test, whole_values


class Machine:
    """The loop, and the values at its beginning."""

    def __init__(self):
        self.tests = []
        self.move = [(0, 0)]
        self.begin = [0]

    def ending(self):
        return find_end(self.tests, self.move, self.begin)

    def state_after(self, rounds):
        return Course(self.move, self.begin, []).state_after(rounds)

    def spans(self, test, final):
        return spans_held(Course(self.move, self.begin, [test]), test, final)


def call_loop(machine, feed):
    counters = feed.number()
    branch = whole_branch(feed.part(), counters)
    machine.tests = branch[0]
    machine.move = branch[1]
    machine.begin = [0 for counter in range(counters)]
    return [len(machine.tests)]


def call_values(machine, feed):
    machine.begin = whole_values(feed.part(), len(machine.move))
    return [0]


def call_rounds(machine, feed):
    ending = machine.ending()
    return [ending[0], ending[1]] + machine.state_after(ending[1])


def call_at(machine, feed):
    rounds = feed.number()
    if rounds < 0 or rounds > FARTHEST:
        raise NoSuchRound()
    ending = machine.ending()
    if ending[0] != NEVER and rounds > ending[1]:
        raise NoSuchRound()
    return [0] + machine.state_after(rounds)


def call_first(machine, feed):
    test = whole_test(feed.part(), len(machine.move))
    ending = machine.ending()
    final = None if ending[0] == NEVER else ending[1]
    spans = machine.spans(test, final)
    if not spans:
        return [0]
    return [1, min([span[0] for span in spans])]


def spans_up_to_end(machine, feed):
    test = whole_test(feed.part(), len(machine.move))
    ending = machine.ending()
    if ending[0] == NEVER:
        raise NeverEnds()
    return machine.spans(test, ending[1])


def call_last(machine, feed):
    spans = spans_up_to_end(machine, feed)
    if not spans:
        return [0]
    return [1, max([span[1] for span in spans])]


def call_times(machine, feed):
    return [sum([span[2] for span in spans_up_to_end(machine, feed)])]


# A call's number is its place here.
CALLS = (call_loop, call_values, call_rounds, call_at, call_first, call_last, call_times)


def answer_call(machine, feed):
    call = CALLS[feed.number()]
    try:
        return call(machine, feed)
    except NotWhole:
        return [-1]
    except NoSuchRound:
        return [-3]
    except NeverEnds:
        return [-7]


def answers(calls):
    """The answers to the calls on one new object, each with how many numbers it has ahead of it."""
    machine = Machine()
    feed = Row(calls)
    given = []
    while feed.more():
        answer = answer_call(machine, feed)
        given.append(len(answer))
        given.extend(answer)
    return given
